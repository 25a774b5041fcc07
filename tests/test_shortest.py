import copy
import itertools
import unittest

from marchmend.kinds import KINDS, told_kinds
from marchmend.marches import is_sure, length_of, look_at_test
from marchmend.shortest import numbers_for, shortest
from marchmend.stands import first_stand, lets_numbers
from marchmend.texts import written
from plain import plainly_tells, tests_of
from samples import BY_KIND

# By hand: the length of the shortest test of each kind, None where it is above five.
LENGTHS = {"stuck": 4, "slow": 5, "forgets": None, "misreads": 4, "turns": 5, "sets": None, "keeps": None,
           "nowhere": 4, "other": 3, "both": 5}
SEVERAL = {("stuck", "nowhere"): 4, ("misreads", "stuck", "nowhere"): 4, ("other", "both"): 5, ("both", "stuck"): 5,
           ("slow", "stuck"): 5, ("slow", "misreads", "nowhere"): 5, ("turns", "other"): None, ("turns", "slow"): None,
           ("stuck", "forgets"): None, ("sets", "keeps", "turns"): None, ("other", "stuck"): 4}


def harms_for(kinds):
    return [harm for kind in kinds for harm in BY_KIND[kind]]


def some_tells(kinds, length):
    """Whether a test without any, of just so many steps, tells the kinds."""
    return any(plainly_tells(test, harms_for(kinds)) for test in tests_of(length))


class Shortest(unittest.TestCase):
    def is_shortest(self, kinds, most, length):
        """That a test of the length is told, None where it is above most, and that there is none shorter."""
        told = shortest(kinds, most)
        if length is None or length > most:
            self.assertIsNone(told)
            self.assertIs(True, lets_numbers(kinds, most + 1, numbers_for(kinds, most + 1)))
            return
        self.assertIsNone(look_at_test(told))
        self.assertTrue(is_sure(told))
        self.assertLessEqual({order for order, steps in told}, {"up", "down"})
        self.assertLessEqual(set(kinds), set(told_kinds(told)))
        self.assertTrue(plainly_tells(told, harms_for(kinds)))
        self.assertEqual(length, length_of(told))
        self.assertIs(True, lets_numbers(kinds, length, numbers_for(kinds, length)))

    def test_each_kind(self):
        self.assertEqual(set(KINDS), set(LENGTHS))
        for kind, length in LENGTHS.items():
            for most in range(1, 6):
                with self.subTest(kind=kind, most=most):
                    self.is_shortest([kind], most, length)

    def test_several_kinds_in_both_orders(self):
        for kinds, length in SEVERAL.items():
            for some, most in itertools.product((kinds, kinds[::-1]), (2, 4, 5)):
                with self.subTest(kinds=some, most=most):
                    self.is_shortest(list(some), most, length)

    def test_pairs(self):
        for one, other in list(itertools.combinations(KINDS, 2))[::3]:
            told = shortest([one, other], 5)
            lengths = [LENGTHS[one], LENGTHS[other]]
            if told is None:
                self.is_shortest([one, other], 5, None)
            else:
                self.assertNotIn(None, lengths)
                self.assertGreaterEqual(length_of(told), max(lengths))
                self.is_shortest([one, other], 5, length_of(told))

    def test_by_hand(self):
        # Nothing else of three steps writes, reads, and then reads at the one what it wrote at the other.
        self.assertIn(written(shortest(["other"], 3)),
                      [f"{one} w{bit}; {other} r{bit} w{1 - bit}" for one in ("up", "down") for other in ("up", "down")
                       for bit in (0, 1)])

    def test_against_trying_all_tests(self):
        for kinds, length in [([kind], length) for kind, length in LENGTHS.items()] + list(SEVERAL.items()):
            for tried in range(1, 1 + (length or 5)):
                self.assertIs(tried == length, some_tells(kinds, tried), (kinds, tried))

    def test_the_same_for_more_than_is_needed(self):
        for kind, length in LENGTHS.items():
            if length is not None:
                self.assertIsNone(shortest([kind], length - 1))
                for most in range(length, 6):
                    self.assertEqual(length, length_of(shortest([kind], most)))

    def test_somewhat_beyond(self):
        self.assertIsNone(shortest(["stuck"], 0))
        self.assertEqual(6, length_of(shortest(["forgets"], 6)))
        self.assertEqual(6, length_of(shortest(["keeps"], 6)))
        self.assertEqual(4, length_of(shortest(["stuck"], 7)))


class NumbersFor(unittest.TestCase):
    def has_form(self, numbers):
        self.assertIs(list, numbers.__class__)
        for row in numbers:
            self.assertEqual((tuple, 2), (row.__class__, len(row)))
            self.assertIs(int, row[1].__class__)

    def test_none_just_where_a_shorter_test_tells_them(self):
        for kinds, shortest_length in [([kind], LENGTHS[kind]) for kind in KINDS] + list(SEVERAL.items()):
            for length in range(1, 6 + (shortest_length is not None)):
                numbers = numbers_for(list(kinds), length)
                if shortest_length is not None and shortest_length < length:
                    self.assertIsNone(numbers, (kinds, length))
                else:
                    self.has_form(numbers)
                    self.assertIs(True, lets_numbers(list(kinds), length, numbers))
                    self.assertIn((first_stand(list(kinds)), 0), numbers)

    def test_of_length_6(self):
        for kind in KINDS:
            numbers = numbers_for([kind], 6)
            self.assertEqual(LENGTHS[kind] is None, numbers is not None)
            self.assertIs(LENGTHS[kind] is None, lets_numbers([kind], 6, numbers))

    def test_of_length_1(self):
        for kind in KINDS:
            self.assertEqual([(first_stand([kind]), 0)], numbers_for([kind], 1))

    def test_somewhat_beyond(self):
        for kind in ("forgets", "keeps"):
            self.assertIsNone(numbers_for([kind], 7))
        self.assertIs(True, lets_numbers(["sets"], 7, numbers_for(["sets"], 7)))


class HandedInAndTold(unittest.TestCase):
    def test_what_is_handed_in_stays_as_it_was(self):
        for kinds in (["stuck"], ["other", "nowhere"], ["forgets", "sets"]):
            before = list(kinds)
            shortest(kinds, 4)
            numbers_for(kinds, 4)
            self.assertEqual(before, kinds)

    def test_told_lists_may_be_changed(self):
        told = shortest(["turns"], 5)
        expected = copy.deepcopy(told)
        for order, steps in told:
            steps.clear()
        told.clear()
        self.assertEqual(expected, shortest(["turns"], 5))
        numbers = numbers_for(["turns"], 3)
        before = copy.deepcopy(numbers)
        numbers.clear()
        self.assertEqual(before, numbers_for(["turns"], 3))

    def test_no_list_stands_twice_in_a_told_test(self):
        for kind, length in LENGTHS.items():
            if length is not None:
                told = shortest([kind], 5)
                self.assertEqual(len(told), len({id(steps) for order, steps in told}))

    def test_asked_twice_alike_told_alike(self):
        for kind in KINDS:
            told = shortest([kind], 5), numbers_for([kind], 4)
            shortest(["turns"], 3)
            self.assertEqual(told, (shortest([kind], 5), numbers_for([kind], 4)))


if __name__ == "__main__":
    unittest.main()
