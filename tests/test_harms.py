import copy
import itertools
import unittest

from marchmend.errors import NoHarms
from marchmend.harms import cells_of, little, look_at_harms, placed
from samples import ONE_CELL, Case, Odd, all_on, of_any_kind, one_of_each_sort

GOOD = ("stuck", 0, 1)
NO_CELLS = [-1, 64, 65, 10 ** 59, -10 ** 59, True, False, None, "0", "", [0], (0,), {}, Odd()]
NO_BITS = [-1, 2, 64, 10 ** 59, True, False, None, "0", "", [0], (0,), {}, Odd()]
NO_HOWS = ["", "AND", "And", "xor", "and ", " or", "nor", 0, 1, True, None, ["and"], ("or",), {}, b"and", Odd()]
NO_WORDS = ["", "Stuck", "STUCK", "stuck ", " stuck", "sticks", "turn", "swaps", "a", "and", 0, 1, None, True, [],
            ["stuck"], ("stuck",), {}, b"stuck", Odd()]


def wrong_harms():
    """Tuples that look like harms, each with one thing wrong."""
    wrong = [(word, 0, 1) for word in NO_WORDS] + [(word, 0, 1, 0, 0) for word in NO_WORDS]
    for harm in one_of_each_sort():
        wrong += [harm[:length] for length in range(1, len(harm))]
        wrong += [harm + (0,), harm + (1,), harm + (None,), harm + ("and",), harm + (0, 1, 0), list(harm), (harm,)]
    for cell in NO_CELLS:
        wrong += [(word, cell, 0) for word in ONE_CELL]
        wrong += [("turns", cell, 1, 0), ("turns", 1, cell, 0), ("sets", cell, 1, 0, 1), ("sets", 1, cell, 0, 1),
                  ("keeps", cell, 1, 0, 1), ("keeps", 1, cell, 0, 1), ("other", cell, 1), ("other", 1, cell),
                  ("both", cell, 1, "or"), ("both", 1, cell, "or")]
    for bit in NO_BITS:
        wrong += [(word, 0, bit) for word in ONE_CELL]
        wrong += [("turns", 0, 1, bit), ("sets", 0, 1, bit, 1), ("sets", 0, 1, 1, bit), ("keeps", 0, 1, bit, 1),
                  ("keeps", 0, 1, 1, bit)]
    wrong += [("both", 0, 1, how) for how in NO_HOWS]
    for cell in (0, 1, 63):
        wrong += [("turns", cell, cell, 0), ("sets", cell, cell, 0, 1), ("keeps", cell, cell, 1, 1),
                  ("other", cell, cell), ("both", cell, cell, "and")]
    return wrong + [(), ("and", 0, 1), (0, "stuck", 1), (0, 1), ("both", "and", 0, 1)]


class OfHarms(Case):
    def refused_with(self, number, asker, *given):
        told = self.refused(NoHarms, asker, *given).number
        self.assertEqual(number, told)
        self.assertIs(number.__class__, told.__class__)

    def refused_by_all(self, number, thing):
        self.refused_with(number, look_at_harms, thing)
        self.refused_with(number, cells_of, thing)
        self.refused_with(number, little, thing)
        self.refused_with(number, placed, thing, [0])


class WhatAreHarms(OfHarms):
    def test_each_of_each_sort(self):
        for harm in all_on([0, 1, 2]) + all_on([0, 63]) + all_on([31, 62]):
            self.assertIsNone(look_at_harms([harm]), harm)

    def test_none_to_three(self):
        self.assertIsNone(look_at_harms([]))
        self.assertIsNone(look_at_harms([GOOD]))
        self.assertIsNone(look_at_harms([GOOD, ("turns", 0, 1, 1)]))
        self.assertIsNone(look_at_harms([GOOD, ("turns", 0, 1, 1), ("other", 2, 1)]))
        self.assertIsNone(look_at_harms([GOOD, GOOD, GOOD]))
        self.refused_by_all(None, [GOOD, GOOD, GOOD, GOOD])
        self.refused_by_all(None, [GOOD] * 1000)

    def test_too_many_goes_ahead_of_what_they_are(self):
        self.refused_by_all(None, [None] * 4)
        self.refused_by_all(None, [("stuck", cell, 0) for cell in range(4)])

    def test_no_list(self):
        for thing in of_any_kind():
            if not isinstance(thing, list):
                with self.subTest(thing=thing):
                    self.refused_by_all(None, thing)
        self.refused_by_all(None, (GOOD,))
        self.refused_by_all(None, GOOD)
        self.refused_by_all(None, {0: GOOD})

    def test_things_that_are_no_harm_at_each_place(self):
        for thing in of_any_kind() + wrong_harms():
            for number in range(3):
                harms = [GOOD, ("slow", 0, 0), ("forgets", 0, 1)]
                harms[number] = thing
                with self.subTest(thing=thing, number=number):
                    self.refused_by_all(number, harms)
                    self.refused_by_all(number, harms[:number + 1])

    def test_the_first_is_named(self):
        self.refused_by_all(0, [None, GOOD, None])
        self.refused_by_all(1, [GOOD, ("stuck", 0, 2), None])
        self.refused_by_all(2, [GOOD, GOOD, ["stuck", 0, 1]])

    def test_a_list_that_holds_itself(self):
        knot = []
        knot.append(knot)
        self.refused_by_all(0, knot)
        self.refused_by_all(1, [GOOD, (knot, 0, 1)])


class UnlikeCells(OfHarms):
    def test_three_do(self):
        self.assertIsNone(look_at_harms([("stuck", 5, 0), ("stuck", 63, 0), ("stuck", 0, 0)]))
        self.assertIsNone(look_at_harms([("turns", 5, 6, 0), ("sets", 6, 7, 0, 1), ("both", 7, 5, "or")]))
        self.assertIsNone(look_at_harms([("turns", 5, 6, 0), ("other", 7, 6)]))

    def test_the_fourth_is_named(self):
        self.refused_by_all(1, [("turns", 0, 1, 0), ("turns", 2, 3, 0)])
        self.refused_by_all(1, [("turns", 0, 1, 0), ("other", 3, 2), GOOD])
        self.refused_by_all(2, [("turns", 0, 1, 0), ("keeps", 2, 0, 0, 0), ("stuck", 3, 0)])
        self.refused_by_all(2, [("stuck", 3, 0), ("nowhere", 2, 0), ("both", 1, 0, "and")])
        self.refused_by_all(2, [("other", 3, 2), ("nowhere", 2, 0), ("sets", 0, 1, 0, 0)])

    def test_a_thing_of_the_wrong_kind_ahead_of_it_is_named_first(self):
        self.refused_by_all(0, [None, ("turns", 0, 1, 0), ("turns", 2, 3, 0)])
        self.refused_by_all(1, [("turns", 0, 1, 0), ("turns", 2, 2, 0), ("turns", 2, 3, 0)])

    def test_it_is_named_ahead_of_a_thing_of_the_wrong_kind(self):
        self.refused_by_all(1, [("turns", 0, 1, 0), ("turns", 2, 3, 0), None])

    def test_cells_of_what_is_no_harm_do_not_count(self):
        self.refused_by_all(2, [("turns", 0, 1, 0), ("turns", 0, 2, 0), ("turns", 3, 4)])

    def test_by_going_through_pairs(self):
        chosen = [("turns", 0, 1, 1), ("other", 2, 0), ("both", 3, 1, "or"), ("slow", 4, 1), ("sets", 2, 3, 0, 1)]
        for harms in itertools.product(chosen, repeat=3):
            seen = set()
            number = None
            for place, harm in enumerate(harms):
                seen |= set(harm[1:2] if harm[0] == "slow" else harm[1:3])
                if len(seen) > 3 and number is None:
                    number = place
            if number is None:
                self.assertIsNone(look_at_harms(list(harms)))
                self.assertEqual(sorted(seen), cells_of(list(harms)))
            else:
                self.refused_by_all(number, list(harms))


class Cells(unittest.TestCase):
    def test_rising_and_unlike(self):
        self.assertEqual([], cells_of([]))
        self.assertEqual([9], cells_of([("stuck", 9, 1)]))
        self.assertEqual([9], cells_of([("stuck", 9, 1), ("slow", 9, 0), ("nowhere", 9, 0)]))
        self.assertEqual([3, 9], cells_of([("turns", 9, 3, 1)]))
        self.assertEqual([3, 9], cells_of([("both", 9, 3, "or"), ("other", 3, 9)]))
        self.assertEqual([0, 10, 63], cells_of([("stuck", 63, 1), ("forgets", 0, 1), ("misreads", 10, 0)]))
        self.assertEqual([1, 2, 3], cells_of([("sets", 3, 1, 0, 0), ("keeps", 2, 3, 1, 1)]))

    def test_bits_are_no_cells(self):
        for harm in one_of_each_sort():
            far = tuple(part + 40 if place in (1, 2) and is_cell_place(harm, place) else part
                        for place, part in enumerate(harm))
            self.assertEqual([part for part in far if part in (40, 41)], cells_of([far]))

    def test_each_of_each_sort(self):
        for harm in all_on([4, 7, 20]):
            expected = {harm[1]} if harm[0] in ONE_CELL else {harm[1], harm[2]}
            self.assertEqual(sorted(expected), cells_of([harm]))


def is_cell_place(harm, place):
    return place == 1 or harm[0] not in ONE_CELL


class LittleAndPlaced(unittest.TestCase):
    def test_little(self):
        self.assertEqual([], little([]))
        self.assertEqual([("stuck", 0, 1)], little([("stuck", 1, 1)]))
        self.assertEqual([("turns", 1, 0, 1)], little([("turns", 9, 3, 1)]))
        self.assertEqual([("both", 0, 2, "and"), ("keeps", 1, 0, 1, 0)],
                         little([("both", 7, 63, "and"), ("keeps", 10, 7, 1, 0)]))
        self.assertEqual([("sets", 2, 0, 1, 1), ("slow", 2, 0), ("other", 1, 2)],
                         little([("sets", 3, 1, 1, 1), ("slow", 3, 0), ("other", 2, 3)]))

    def test_little_of_each_sort(self):
        names = ((5, 1, 0), (1, 5, 1))
        self.assertEqual([("stuck", 0, 1), ("slow", 1, 0), ("forgets", 1, 1)],
                         little([("stuck", 1, 1), ("slow", 5, 0), ("forgets", 5, 1)]))
        self.assertEqual([("misreads", 0, 1), ("nowhere", 1, 0), ("other", 1, 0)],
                         little([("misreads", 1, 1), ("nowhere", 5, 0), ("other", 5, 1)]))
        for a, b, first in names:
            self.assertEqual([("turns", 1 - first, first, 1)], little([("turns", a, b, 1)]))
            self.assertEqual([("sets", 1 - first, first, 1, 0)], little([("sets", a, b, 1, 0)]))
            self.assertEqual([("keeps", 1 - first, first, 0, 1)], little([("keeps", a, b, 0, 1)]))
            self.assertEqual([("both", 1 - first, first, "or")], little([("both", a, b, "or")]))

    def test_placed(self):
        self.assertEqual([], placed([], []))
        self.assertEqual([("stuck", 63, 1)], placed([("stuck", 0, 1)], [63]))
        self.assertEqual([("turns", 9, 3, 1)], placed([("turns", 1, 0, 1)], [3, 9]))
        self.assertEqual([("both", 7, 63, "and"), ("keeps", 10, 7, 1, 0)],
                         placed([("both", 0, 2, "and"), ("keeps", 1, 0, 1, 0)], [7, 10, 63]))

    def test_placed_of_harms_that_are_not_little(self):
        self.assertEqual([("turns", 5, 1, 1)], placed([("turns", 63, 2, 1)], [1, 5]))
        self.assertEqual([("other", 2, 1), ("stuck", 0, 0)], placed([("other", 30, 20), ("stuck", 10, 0)], [0, 1, 2]))
        self.assertEqual([("sets", 2, 1, 1, 0)], placed([("sets", 1, 0, 1, 0)], [1, 2]))

    def test_they_undo_one_another(self):
        for harm in all_on([2, 5, 40]):
            for other in (("turns", 2, 5, 1), ("slow", 40, 0)):
                harms = [harm, other]
                self.assertEqual(harms, placed(little(harms), cells_of(harms)))
                self.assertEqual(little(harms), little(little(harms)))
                size = len(cells_of(harms))
                self.assertEqual(list(range(size)), cells_of(little(harms)))
                for cells in ([0, 1, 2], [5, 6, 63], [1, 30, 31]):
                    self.assertEqual(cells[:size], cells_of(placed(harms, cells[:size])))
                    self.assertEqual(little(harms), little(placed(harms, cells[:size])))

    def test_the_order_of_the_harms_stays(self):
        harms = [("stuck", 9, 1), ("stuck", 3, 1), ("stuck", 6, 1)]
        self.assertEqual([("stuck", 2, 1), ("stuck", 0, 1), ("stuck", 1, 1)], little(harms))


class WhatIsHandedInAndTold(unittest.TestCase):
    def test_what_is_handed_in_stays_as_it_was(self):
        for harms in ([], [("turns", 9, 3, 1), ("stuck", 5, 0)], [None], [GOOD, ["stuck", 0, 1]], [GOOD] * 4):
            before = copy.deepcopy(harms)
            cells = [1, 2, 3]
            for asker in (look_at_harms, cells_of, little, lambda thing: placed(thing, cells)):
                try:
                    asker(harms)
                except NoHarms:
                    pass
                self.assertEqual(before, harms)
                self.assertEqual([1, 2, 3], cells)

    def test_told_lists_are_the_askers_own(self):
        harms = [("turns", 9, 3, 1), ("stuck", 5, 0)]
        for asker in (cells_of, little, lambda thing: placed(thing, [0, 1, 2])):
            told = asker(harms)
            expected = copy.deepcopy(told)
            told.append(None)
            told[0] = None
            self.assertEqual(expected, asker(harms))
            self.assertEqual([("turns", 9, 3, 1), ("stuck", 5, 0)], harms)
        empty = []
        self.assertIsNot(empty, little(empty))
        self.assertIsNot(empty, placed(empty, []))
        same = [("stuck", 0, 1)]
        self.assertIsNot(same, little(same))
        self.assertIsNot(same, placed(same, [0]))

    def test_nothing_of_it_is_kept(self):
        harms = [("turns", 9, 3, 1)]
        told = little(harms)
        cells = [4, 5]
        put = placed(harms, cells)
        harms.append(("stuck", 0, 1))
        cells.clear()
        self.assertEqual([("turns", 1, 0, 1)], told)
        self.assertEqual([("turns", 5, 4, 1)], put)
        self.assertEqual([0, 3, 9], cells_of(harms))


if __name__ == "__main__":
    unittest.main()
