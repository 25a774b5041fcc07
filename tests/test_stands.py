import copy
import itertools
import unittest

from marchmend.kinds import KINDS
from marchmend.shortest import numbers_for
from marchmend.stands import first_stand, led_to, lets_numbers
from plain import plain_first_stand, plain_stand_behind, plainly_lets_numbers, sure_steps
from samples import BY_KIND, Odd, of_any_kind

TWO = ((0,), (1,))
FOUR = ((0, 0), (0, 1), (1, 0), (1, 1))
FIRSTS = {
    "stuck": (((0,),), ((1,),)),
    "slow": (TWO, TWO),
    "forgets": (TWO, TWO),
    "misreads": (TWO, TWO),
    "turns": (FOUR,) * 4,
    "sets": (FOUR,) * 8,
    # Each lacks the one at which the kept cell would hold another bit.
    "keeps": (((0, 0), (1, 0), (1, 1)), ((0, 1), (1, 0), (1, 1)), ((0, 0), (0, 1), (1, 0)), ((0, 0), (0, 1), (1, 1)),
              ((0, 0), (0, 1), (1, 1)), ((0, 1), (1, 0), (1, 1)), ((0, 0), (0, 1), (1, 0)), ((0, 0), (1, 0), (1, 1))),
    "nowhere": (TWO, TWO),
    "other": (FOUR,) * 2,
    "both": (FOUR,) * 4,
}
W0, W1, R0, R1 = ("w", 0), ("w", 1), ("r", 0), ("r", 1)


def harms_for(kinds):
    return [harm for kind in kinds for harm in BY_KIND[kind]]


class Standing(unittest.TestCase):
    def has_form(self, kinds, stand):
        self.assertIs(tuple, stand.__class__)
        known, lists = stand
        self.assertTrue(known is None or known.__class__ is int and known in (0, 1))
        self.assertIs(tuple, lists.__class__)
        self.assertEqual(len(harms_for(kinds)), len(lists))
        for standing, firsts in zip(lists, [firsts for kind in kinds for firsts in FIRSTS[kind]]):
            self.assertIs(tuple, standing.__class__)
            self.assertEqual(tuple(sorted(set(standing))), standing)
            for contents in standing:
                self.assertEqual((tuple, len(firsts[0])), (contents.__class__, len(contents)))
                self.assertTrue(all(bit.__class__ is int and bit in (0, 1) for bit in contents))


class FirstStand(Standing):
    def test_each_kind(self):
        self.assertEqual(set(KINDS), set(FIRSTS))
        for kind in KINDS:
            self.assertEqual((None, FIRSTS[kind]), first_stand([kind]))
            self.has_form([kind], first_stand([kind]))

    def test_two_and_three_in_all_orders(self):
        for count in (2, 3):
            for kinds in itertools.permutations(KINDS, count):
                expected = ()
                for kind in kinds:
                    expected += FIRSTS[kind]
                self.assertEqual((None, expected), first_stand(list(kinds)))

    def test_against_another(self):
        for kind in KINDS:
            self.assertEqual(plain_first_stand(BY_KIND[kind]), first_stand([kind]))

    def test_what_is_handed_in_stays_as_it_was(self):
        kinds = ["keeps", "stuck"]
        told = first_stand(kinds)
        self.assertEqual(["keeps", "stuck"], kinds)
        kinds.clear()
        self.assertEqual((None, FIRSTS["keeps"] + FIRSTS["stuck"]), told)


class LedTo(Standing):
    def leads(self, kinds, stand, element, expected):
        told = led_to(kinds, stand, element)
        self.assertEqual(expected, told)
        self.has_form(kinds, told)

    def test_stuck(self):
        first = (None, (((0,),), ((1,),)))
        self.leads(["stuck"], first, ("up", [W0]), (0, (((0,),), ((1,),))))
        self.leads(["stuck"], first, ("down", [W1]), (1, (((0,),), ((1,),))))
        self.leads(["stuck"], first, ("up", [W0, R0]), (0, (((0,),), ())))
        self.leads(["stuck"], first, ("up", [W1, R1]), (1, ((), ((1,),))))
        self.leads(["stuck"], first, ("down", [W0, R0, W1, R1]), (1, ((), ())))

    def test_of_one_cell(self):
        self.leads(["slow"], (None, (TWO, TWO)), ("up", [W0]), (0, (TWO, ((0,),))))
        self.leads(["slow"], (0, (TWO, ((0,),))), ("up", [R0]), (0, (((0,),), ((0,),))))
        self.leads(["slow"], (0, (TWO, ((0,),))), ("down", [W1, R1]), (1, (((1,),), ())))
        self.leads(["forgets"], (0, (((0,),), ((0,),))), ("up", [R0]), (0, (((1,),), ((0,),))))
        self.leads(["forgets"], (0, (((0,),), ((0,),))), ("up", [R0, R0]), (0, ((), ((0,),))))
        self.leads(["misreads"], (1, (((1,),), ((1,),))), ("down", [R1]), (1, (((1,),), ())))
        self.leads(["nowhere"], (None, (TWO, TWO)), ("down", [W0, W1]), (1, (TWO, TWO)))
        self.leads(["nowhere"], (1, (TWO, TWO)), ("down", [R1]), (1, ((), TWO)))

    def test_of_two_cells(self):
        first = (None, (FOUR,) * 4)
        none = ((0, 0),)
        # Upwards cell 1 falls behind cell 0, so what it turns there stays; downwards it is the other way about.
        self.leads(["turns"], first, ("up", [W0]), (0, (none, none, ((0, 0), (1, 0)), none)))
        self.leads(["turns"], first, ("down", [W0]), (0, (((0, 0), (0, 1)), none, none, none)))
        self.leads(["turns"], (0, (none,) * 4), ("up", [R0, W1]), (1, (((1, 1),), (), ((1, 1),), ((0, 1),))))
        self.leads(["turns"], (0, (none,) * 4), ("down", [R0, W1]), (1, (((1, 1),), ((1, 0),), ((1, 1),), ())))
        self.leads(["other"], (0, (none, none)), ("up", [R0, W1]), (1, ((), ())))
        self.leads(["other"], (0, (FOUR, FOUR)), ("down", [W1]), (1, (((0, 1), (1, 1)), ((1, 0), (1, 1)))))
        self.leads(["both"], (1, (((1, 1),),) * 4), ("up", [R1, W0]), (0, ((), (), (), none)))

    def test_an_element_of_reads_alone(self):
        stand = (1, (((0, 1), (1, 1)), ((1, 1),), ((0, 0),), ()))
        for order in ("up", "down"):
            self.leads(["turns"], stand, (order, [R1]), (1, (((1, 1),), ((1, 1),), (), ())))
            self.leads(["turns"], stand, (order, [R1] * 6), (1, (((1, 1),), ((1, 1),), (), ())))
        self.leads(["forgets"], (1, (TWO, TWO)), ("up", [R1]), (1, (((1,),), ((0,),))))

    def test_where_lists_are_empty(self):
        self.leads(["stuck"], (0, (((0,),), ())), ("up", [W0]), (0, (((0,),), ())))
        self.leads(["stuck"], (0, ((), ())), ("down", [W0, W1]), (1, ((), ())))
        self.leads(["slow", "stuck"], (0, ((), ((0,),), ((0,),), ())), ("up", [W1]), (1, ((), TWO[:1], TWO[:1], ())))

    def test_several_kinds_in_their_order(self):
        lists = {"stuck": (((0,),), ()), "slow": (TWO, ((0,),))}
        for kinds in (["stuck", "slow"], ["slow", "stuck"]):
            told = led_to(kinds, first_stand(kinds), ("up", [W0, W0]))
            self.assertEqual((0, FIRSTS["stuck"]), led_to(["stuck"], first_stand(["stuck"]), ("up", [W0, W0])))
            told = led_to(kinds, told, ("down", [R0, W0]))
            lists["slow"] = (((0,),), ((0,),))
            self.assertEqual((0, lists[kinds[0]] + lists[kinds[1]]), told)

    def test_against_going_through(self):
        for kind in KINDS:
            stands = [first_stand([kind])]
            for turn in range(2):
                found = []
                for stand in stands:
                    for order, count in itertools.product(("up", "down"), (1, 2, 3)):
                        for steps in sure_steps(stand[0], count):
                            expected = plain_stand_behind(BY_KIND[kind], stand, order, steps)
                            self.leads([kind], stand, (order, list(steps)), expected)
                            found.append(expected)
                stands = sorted(set(found))[::17]

    def test_long_elements_against_going_through(self):
        kinds = ["keeps", "forgets", "both"]
        for number, steps in enumerate(sure_steps(None, 6)):
            if number % 5 == 0:
                for order in ("up", "down"):
                    expected = plain_stand_behind(harms_for(kinds), first_stand(kinds), order, steps)
                    self.leads(kinds, first_stand(kinds), (order, list(steps)), expected)

    def test_what_is_handed_in_stays_as_it_was(self):
        kinds, stand, element = ["stuck", "turns"], first_stand(["stuck", "turns"]), ("up", [W0, R0, W1])
        before = copy.deepcopy((kinds, stand, element))
        told = led_to(kinds, stand, element)
        self.assertEqual(before, (kinds, stand, element))
        element[1].clear()
        kinds.clear()
        self.assertEqual(told, led_to(*before))


FIRST = (None, (((0,),), ((1,),)))
AT_0, AT_1 = (0, FIRST[1]), (1, FIRST[1])
NOT_1, NOT_0 = (0, (((0,),), ())), (1, ((), ((1,),)))
BY_HAND = {
    1: [(FIRST, 0)],
    2: [(FIRST, 0), (AT_0, 1), (AT_1, 1)],
    3: [(FIRST, 0), (AT_0, 1), (AT_1, 1), (NOT_1, 2), (NOT_0, 2)],
    4: [(FIRST, 0), (AT_0, 1), (AT_1, 1), (NOT_1, 2), (NOT_0, 2), ((1, NOT_1[1]), 3), ((0, NOT_0[1]), 3)],
}


class Numbers(unittest.TestCase):
    def lets(self, kinds, length, numbers):
        self.assertIs(True, lets_numbers(kinds, length, numbers), (kinds, length, numbers))

    def refuses(self, kinds, length, thing):
        self.assertIs(False, lets_numbers(kinds, length, thing), (kinds, length, thing))


class LetBy(Numbers):
    def test_by_hand(self):
        for length, numbers in BY_HAND.items():
            self.lets(["stuck"], length, numbers)
            self.lets(["stuck"], length, numbers[::-1])
            self.assertEqual(sorted(numbers, key=repr), sorted(numbers_for(["stuck"], length), key=repr))

    def test_for_a_shorter_length_they_serve_too(self):
        for length, shorter in ((4, 1), (4, 2), (4, 3), (3, 2), (2, 1)):
            self.lets(["stuck"], shorter, BY_HAND[length])
        for length in (1, 2, 3):
            self.refuses(["stuck"], length + 1, BY_HAND[length])

    def test_a_test_of_that_length_may_tell_the_kinds(self):
        # Here all is closed, but from 0 on four steps lead to a stand that is over.
        over = [((bit, ((), ())), 4) for bit in (0, 1)]
        self.lets(["stuck"], 4, BY_HAND[4] + over)
        self.refuses(["stuck"], 5, BY_HAND[4] + over)
        self.refuses(["stuck"], 6, BY_HAND[4] + over)
        self.refuses(["stuck"], 5, BY_HAND[4] + [(stand, 5) for stand, number in over])

    def test_those_that_are_told(self):
        for kinds in [[kind] for kind in KINDS] + [["sets", "slow"], ["slow", "sets"], ["keeps", "turns", "sets"]]:
            for length in range(1, 7):
                numbers = numbers_for(kinds, length)
                if numbers is not None:
                    self.lets(kinds, length, numbers)
                    self.assertTrue(plainly_lets_numbers(harms_for(kinds), length, numbers))

    def test_more_than_are_needed(self):
        self.lets(["stuck"], 2, BY_HAND[4])
        self.lets(["stuck"], 1, BY_HAND[1] + [((0, ((), ())), 1), ((None, ((), ())), 1)])
        self.lets(["stuck"], 2, BY_HAND[2] + [((None, ((), ())), 2), ((1, ((), ((1,),))), 1)])
        self.lets(["stuck"], 2, BY_HAND[2] + [((0, ((), ())), 10 ** 59)])
        # What is among them has to be closed, needed or not.
        self.refuses(["stuck"], 2, BY_HAND[2] + [((1, ((), ((1,),))), 0)])
        # From here a write and a read would be over.
        self.refuses(["stuck"], 4, BY_HAND[4] + [((None, (((0,),), ())), 0)])

    def test_a_lesser_number_where_that_is_closed(self):
        self.lets(["stuck"], 3, BY_HAND[3][:3] + [(NOT_1, 2), (NOT_0, 2), ((1, NOT_1[1]), 2)])
        self.refuses(["stuck"], 4, BY_HAND[4][:5] + [((1, NOT_1[1]), 2), ((0, NOT_0[1]), 3)])
        # Nothing hangs on these: of two steps from each a third would not be below the length.
        self.refuses(["stuck"], 2, [(FIRST, 0), (AT_0, 0), (AT_1, 1)])
        self.lets(["stuck"], 2, [(FIRST, 0), (AT_0, 0), (AT_1, 1), (NOT_1, 1)])
        self.lets(["stuck"], 1, [(FIRST, 0), (AT_0, 0)])


class NotLetBy(Numbers):
    CASES = [(["stuck"], 4), (["slow"], 5), (["forgets"], 6), (["turns"], 4), (["other", "stuck"], 3), (["keeps"], 3),
             (["both"], 5), (["stuck"], 1), (["sets", "misreads", "forgets"], 2)]

    def test_one_left_out(self):
        for kinds, length in self.CASES:
            numbers = numbers_for(kinds, length)
            self.lets(kinds, length, numbers)
            for place in range(len(numbers)):
                self.refuses(kinds, length, numbers[:place] + numbers[place + 1:])

    def test_a_number_one_more(self):
        for kinds, length in self.CASES:
            numbers = numbers_for(kinds, length)
            for place, (stand, number) in enumerate(numbers):
                self.refuses(kinds, length, numbers[:place] + [(stand, number + 1)] + numbers[place + 1:])

    def test_a_number_one_less(self):
        seen = {True: 0, False: 0}
        for kinds, length in self.CASES:
            numbers = numbers_for(kinds, length)
            for place, (stand, number) in enumerate(numbers):
                bent = numbers[:place] + [(stand, number - 1)] + numbers[place + 1:]
                expected = number > 0 and plainly_lets_numbers(harms_for(kinds), length, bent)
                seen[expected] += 1
                self.assertIs(expected, lets_numbers(kinds, length, bent))
        self.assertGreater(min(seen.values()), 5)

    def test_the_first_stand_has_another_number(self):
        for number in (1, 2, 3, 4, 10 ** 59):
            self.refuses(["stuck"], 1, [(FIRST, number)])
            self.refuses(["stuck"], 2, [(FIRST, number)] + BY_HAND[2][1:])

    def test_the_first_stand_is_missing(self):
        for length in range(1, 7):
            self.refuses(["stuck"], length, [])
            self.refuses(["stuck"], length, [(AT_0, 0)])
            self.refuses(["stuck"], length, [((0, ((), ())), 6)])

    def test_one_that_is_over_with_a_number_below_the_length(self):
        for known in (None, 0, 1):
            for length in (1, 2, 3, 4):
                for number in range(length):
                    # All that it leads to is there as well.
                    over = [((bit, ((), ())), number) for bit in (None, 0, 1) if bit != known]
                    self.refuses(["stuck"], length, BY_HAND[length] + over + [((known, ((), ())), number)])
                    self.refuses(["stuck"], length, BY_HAND[length] + [((known, ((), ())), number)])
                self.lets(["stuck"], length, BY_HAND[length] + [((known, ((), ())), length)])

    def test_two_rows_of_one_stand(self):
        for place, (stand, number) in enumerate(BY_HAND[3]):
            for other in (number, number + 1, 7, 0):
                self.refuses(["stuck"], 3, BY_HAND[3] + [(stand, other)])
                self.refuses(["stuck"], 3, [(stand, other)] + BY_HAND[3])

    def test_rows_that_are_none(self):
        for thing in of_any_kind() + [[FIRST, 0], (FIRST,), (FIRST, 0, 0), (FIRST, 0, None), (0, FIRST), FIRST, 0]:
            self.refuses(["stuck"], 1, [thing])
            self.refuses(["stuck"], 1, [(FIRST, 0), thing])
            self.refuses(["stuck"], 1, [thing, (FIRST, 0)])

    def test_numbers_that_are_none(self):
        for thing in [None, True, False, -1, -10 ** 59, "0", "", (), (0,), [], [0], {}, {0: 0}, object(), Odd(), len]:
            self.refuses(["stuck"], 1, [(FIRST, thing)])
            self.refuses(["stuck"], 1, [(FIRST, 0), (AT_0, thing)])
            self.refuses(["stuck"], 2, [(FIRST, 0), (AT_0, thing), (AT_1, 1)])
        # All that this leads to is there, and yet it is below 0.
        self.lets(["stuck"], 2, [(FIRST, 0), (AT_0, 0), (NOT_1, 1), (AT_1, 1)])
        self.refuses(["stuck"], 1, [(FIRST, 0), (AT_0, -1), (NOT_1, 0), (AT_1, 0)])

    def test_things_in_the_place_of_a_stand(self):
        things = of_any_kind() + [None, FIRST[1], list(FIRST), (None,), FIRST + (0,), (None, None), (0, 0),
                                  (None, list(FIRST[1])), (None, {0: 1}), (None, "01"), (FIRST[1], None)]
        for thing in things:
            self.refuses(["stuck"], 1, [(thing, 0)])
            self.refuses(["stuck"], 1, [(FIRST, 0), (thing, 5)])

    def test_known_that_is_none(self):
        for known in [True, False, 2, -1, "", "0", (), (0,), [], {}, object(), Odd(), b"0"]:
            self.refuses(["stuck"], 1, [(FIRST, 0), ((known, FIRST[1]), 5)])
        self.refuses(["stuck"], 2, [(FIRST, 0), ((False, FIRST[1]), 1), (AT_1, 1)])
        self.refuses(["stuck"], 2, [(FIRST, 0), (AT_0, 1), ((True, FIRST[1]), 1)])

    def test_lists_that_are_none(self):
        zero, one = ((0,),), ((1,),)
        for lists in [(zero,), (zero, one, ()), (), (zero, one, one), [zero, one], ([(0,)], one), (zero, [(1,)]),
                      (((0,), (0,)), one), (zero, ((1,), (1,))), ((0,), one), (0, 1), ("0", "1"), (None, one),
                      (zero, {(1,): 1}), (([0],), one), (((0, 0),), one), (((),), one), (((2,),), one), (((None,),), one),
                      (((False,),), one), (zero, ((True,),)), ((("0",),), one), (((Odd(),),), one), ((Odd(),), one),
                      (zero, Odd()), (({0},), one)]:
            for known in (None, 0):
                self.refuses(["stuck"], 1, [(FIRST, 0), ((known, lists), 5)])
                self.refuses(["stuck"], 1, [((known, lists), 5), (FIRST, 0)])
            self.refuses(["stuck"], 1, [((None, lists), 0)])

    def test_a_stuck_cell_that_holds_the_other_bit(self):
        for lists in ((((1,),), ((1,),)), (((0,),), ((0,),)), (TWO, ((1,),)), ((), TWO)):
            self.refuses(["stuck"], 1, [(FIRST, 0), ((0, lists), 5)])

    def test_contents_that_are_not_sorted(self):
        first = first_stand(["slow"])
        good = [(first, 0)]
        self.lets(["slow"], 1, good)
        self.lets(["slow"], 1, good + [((0, (TWO, ())), 5)])
        self.refuses(["slow"], 1, good + [((0, (TWO[::-1], ())), 5)])
        self.refuses(["slow"], 1, good + [((0, ((), ((0,), (1,), (1,)))), 5)])
        self.refuses(["slow"], 1, [((None, (TWO[::-1], TWO)), 0)])
        two = first_stand(["other"])
        self.lets(["other"], 1, [(two, 0), ((0, (FOUR[1:3], ())), 5)])
        self.refuses(["other"], 1, [(two, 0), ((0, ((FOUR[2], FOUR[1]), ())), 5)])
        self.refuses(["other"], 1, [(two, 0), ((0, (TWO, ())), 5)])
        self.refuses(["other"], 1, [(two, 0), ((0, (((0, 0), (0, True)), ())), 5)])

    def test_stands_of_other_kinds(self):
        for kinds in (["slow"], ["other"], ["stuck", "slow"]):
            self.refuses(["stuck"], 1, [(first_stand(kinds), 0)])
            self.refuses(["stuck"], 1, [(FIRST, 0), (first_stand(kinds), 5)])
            self.refuses(kinds, 1, [(FIRST, 0)])
        self.refuses(["stuck", "slow"], 1, [(first_stand(["slow", "stuck"]), 0)])

    def test_things_of_any_kind(self):
        for thing in of_any_kind() + [0, 1, {FIRST: 0}, ((FIRST, 0),), (FIRST, 0), [FIRST, 0], {(FIRST, 0)}, "stuck",
                                      [{FIRST: 0}], [[FIRST, 0]], [[[FIRST, 0]]], [5, "x", {}]]:
            for kinds in (["stuck"], ["sets", "other"]):
                for length in (1, 6):
                    self.refuses(kinds, length, thing)

    def test_deep_things_and_such_as_hold_themselves(self):
        deep = ()
        for turn in range(100000):
            deep = (deep, 0)
        knot = []
        knot += [knot, (knot, 0), (FIRST, 0)]
        for thing in (deep, [deep], [(FIRST, 0), (deep, 0)], knot, [(FIRST, 0), knot], [((None, knot), 0)]):
            self.assertIs(False, lets_numbers(["stuck"], 1, thing))

    def test_lengths_1_and_6(self):
        for kinds in (["forgets"], ["sets"], ["keeps", "stuck"], ["sets", "keeps", "turns"]):
            self.lets(kinds, 1, [(first_stand(kinds), 0)])
            self.refuses(kinds, 6, [(first_stand(kinds), 0)])
            numbers = numbers_for(kinds, 6)
            self.lets(kinds, 6, numbers)
            self.refuses(kinds, 6, numbers[:-1])


class HandedIn(Numbers):
    def test_what_is_handed_in_stays_as_it_was(self):
        for thing in (BY_HAND[3], BY_HAND[3][1:], [None, [5]], numbers_for(["stuck"], 4)):
            kinds, before = ["stuck"], copy.deepcopy(thing)
            lets_numbers(kinds, 3, thing)
            self.assertEqual((["stuck"], before), (kinds, thing))

    def test_nothing_of_it_is_kept(self):
        numbers = list(BY_HAND[2])
        self.lets(["stuck"], 2, numbers)
        last = numbers.pop()
        self.refuses(["stuck"], 2, numbers)
        numbers.append(last)
        self.lets(["stuck"], 2, numbers)


if __name__ == "__main__":
    unittest.main()
