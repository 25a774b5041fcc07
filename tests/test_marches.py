import copy
import itertools
import unittest

from marchmend.errors import MarchError, NoTest
from marchmend.marches import is_sure, length_of, look_at_test
from marchmend.texts import written
from samples import ORDERS, STEPS, Odd, eight_by_six, march_c, nine_times, small_tests, things_that_are_no_test

GOOD = ("any", [("w", 0)])
NO_STEPS = [None, True, False, 0, 1, "", "r0", "w1", [], {}, set(), object(), Odd(), (), ("r",), ("w", 0, 0),
            ("r", 0, None), ["r", 0], ["w", 1], ("R", 0), ("x", 0), ("", 0), ("rw", 0), ("r ", 0), (0, "r"),
            (None, 0), (0, 0), (True, 0), (["r"], 0), ({}, 0), (Odd(), 0), (("r",), 0), (b"r", 0),
            ("r", True), ("r", False), ("w", True), ("w", False), ("r", 2), ("w", -1), ("r", 10 ** 59),
            ("r", None), ("r", "0"), ("w", "1"), ("r", ""), ("r", [0]), ("r", (0,)), ("r", {}), ("r", Odd())]
STEPS_NO_LIST = [None, True, 0, 1, "r0", "", {}, {0: ("w", 0)}, (), (("w", 0),), ("w", 0), set(), object(), Odd()]
NO_ORDERS = [None, True, False, 0, 1, "", "Up", "UP", "up ", " up", "upp", "u", "both", "up\n", ["up"], ("up",),
             {}, {"up": 1}, Odd(), b"up"]
NO_PAIRS = [None, True, False, 0, 7, "", "any w0", "ab", [], {}, set(), object(), Odd(), len,
            ["any", [("w", 0)]], {0: "any", 1: [("w", 0)]}, (), ("any",), ([("w", 0)],),
            ("any", [("w", 0)], None), ("any", [("w", 0)], [("w", 0)])]


class Case(unittest.TestCase):
    def refused(self, thing, element, step):
        with self.assertRaises(NoTest) as caught:
            look_at_test(thing)
        self.assertEqual((element, step), (caught.exception.element, caught.exception.step))
        for field in (caught.exception.element, caught.exception.step):
            self.assertIn(field.__class__, (int, None.__class__))
        self.assertIsInstance(caught.exception, MarchError)

    def at_each_place(self, thing, step):
        for place in range(8):
            test = [copy.deepcopy(GOOD) for k in range(8)]
            test[place] = thing
            with self.subTest(thing=thing, place=place):
                self.refused(test, place, step)
                self.refused(test[:place + 1], place, step)


class OfTests(Case):
    def test_none_is_told_of_ordinary_ones(self):
        self.assertIsNone(look_at_test(march_c()))
        self.assertIsNone(look_at_test([("any", [("w", 0)]), ("up", [("r", 0), ("w", 1)]), ("down", [("r", 1)])]))

    def test_one_to_eight_of_them(self):
        for length in range(1, 9):
            self.assertIsNone(look_at_test([copy.deepcopy(GOOD) for k in range(length)]))
        self.refused([], None, None)
        self.refused(nine_times(), None, None)
        self.refused(nine_times() * 100, None, None)

    def test_one_to_six_steps(self):
        for length in range(1, 7):
            self.assertIsNone(look_at_test([("up", [("w", 0)] * length)]))
        self.refused([("up", [])], 0, None)
        self.refused([("up", [("w", 0)] * 7)], 0, None)

    def test_eight_of_six(self):
        self.assertIsNone(look_at_test(eight_by_six()))

    def test_each_order_and_each_step(self):
        for order in ORDERS:
            for step in STEPS:
                self.assertIsNone(look_at_test([(order, [step])]))

    def test_all_small_ones(self):
        for test in small_tests():
            self.assertIsNone(look_at_test(test))

    def test_one_that_is_not_sure_is_a_test_too(self):
        self.assertIsNone(look_at_test([("up", [("r", 1)])]))

    def test_one_list_of_steps_at_several_places(self):
        steps = [("w", 0)]
        self.assertIsNone(look_at_test([("up", steps), ("down", steps)]))


class OfOthers(Case):
    def test_no_list_none_or_too_many(self):
        for thing in things_that_are_no_test():
            with self.subTest(thing=thing):
                self.refused(thing, None, None)

    def test_too_many_goes_ahead_of_what_they_are(self):
        self.refused([None] * 9, None, None)
        self.refused([("up", [None])] * 9, None, None)

    def test_no_tuple_of_two(self):
        for thing in NO_PAIRS:
            self.at_each_place(thing, None)

    def test_no_such_order(self):
        for order in NO_ORDERS:
            self.at_each_place((order, [("w", 0)]), None)

    def test_steps_no_list(self):
        for steps in STEPS_NO_LIST:
            self.at_each_place(("up", steps), None)

    def test_none_or_too_many_steps(self):
        self.at_each_place(("up", []), None)
        self.at_each_place(("up", [("w", 0)] * 7), None)

    def test_order_and_steps_the_wrong_way_round(self):
        self.at_each_place(([("w", 0)], "up"), None)

    def test_things_that_are_no_steps(self):
        for thing in NO_STEPS:
            for place in range(6):
                steps = [("w", 0)] * 6
                steps[place] = thing
                with self.subTest(thing=thing, place=place):
                    self.refused([("up", steps)], 0, place)
                    self.refused([GOOD, ("down", steps[:place + 1])], 1, place)
                    self.refused([GOOD] * 7 + [("any", steps)], 7, place)

    def test_a_list_that_holds_itself(self):
        knot = []
        knot.append(knot)
        self.refused(knot, 0, None)
        self.refused([("up", knot)], 0, 0)


class WhichIsNamed(Case):
    def test_the_first_element_that_is_none(self):
        self.refused([GOOD, None, ("up", [None]), 5], 1, None)
        self.refused([GOOD, ("up", [None]), None], 1, 0)
        self.refused([("up", [("w", 0), None]), ("sideways", [])], 0, 1)

    def test_the_first_step_that_is_none(self):
        self.refused([GOOD, ("up", [("w", 0), ("r", 2), None, ("r", True)])], 1, 1)

    def test_no_step_where_the_element_is_none_otherwise_whatever_its_steps_are(self):
        for steps in ([None], [("w", 0), ("w", True)], [("r", 2)] * 7, [None] * 7, [], None):
            with self.subTest(steps=steps):
                self.refused([GOOD, ("sideways", steps)], 1, None)
                self.refused([GOOD, ("up", steps, None)], 1, None)
                self.refused([GOOD, ["up", steps]], 1, None)
        self.refused([("up", [None] * 7)], 0, None)
        self.refused([("up", (None,))], 0, None)


def always_read_as_is_to_come(test):
    """By running: sound memories of one to three cells, all contents, all orders."""
    free = [("up", "down") if order == "any" else (order,) for order, steps in test]
    for size in (1, 2, 3):
        for contents in itertools.product((0, 1), repeat=size):
            for orders in itertools.product(*free):
                if shows(test, list(contents), orders):
                    return False
    return True


def shows(test, cells, orders):
    for (order, steps), taken in zip(test, orders):
        addresses = list(range(len(cells)))
        for address in addresses if taken == "up" else addresses[::-1]:
            for letter, bit in steps:
                if letter == "w":
                    cells[address] = bit
                elif cells[address] != bit:
                    return True
    return False


class Sureness(unittest.TestCase):
    def test_ordinary_ones(self):
        self.assertIs(True, is_sure(march_c()))
        self.assertIs(True, is_sure([("any", [("w", 0)]), ("up", [("r", 0), ("w", 1)]), ("down", [("r", 1)])]))
        self.assertIs(False, is_sure([("any", [("w", 0)]), ("up", [("r", 1)])]))
        self.assertIs(False, is_sure([("any", [("w", 0), ("w", 1)]), ("up", [("r", 0)])]))

    def test_a_read_ahead_of_all_writing(self):
        for bit in (0, 1):
            self.assertIs(False, is_sure([("up", [("r", bit)])]))
            self.assertIs(False, is_sure([("up", [("r", bit), ("w", bit), ("r", bit)])]))
            self.assertIs(False, is_sure([("down", [("r", bit)]), ("any", [("w", bit)])]))

    def test_without_reads(self):
        for bit in (0, 1):
            self.assertIs(True, is_sure([("down", [("w", bit)])]))
            self.assertIs(True, is_sure([("up", [("w", bit)] * 6)] * 8))

    def test_a_last_read_that_is_wrong(self):
        test = [("any", [("w", 1)])] + [("up", [("r", 1)] * 6)] * 7
        self.assertIs(True, is_sure(test))
        test[7] = ("up", [("r", 1)] * 5 + [("r", 0)])
        self.assertIs(False, is_sure(test))

    def test_within_one_element_and_over_several(self):
        for order in ORDERS:
            self.assertIs(True, is_sure([(order, [("w", 1), ("r", 1), ("w", 0), ("r", 0)]), (order, [("r", 0)])]))
            self.assertIs(False, is_sure([(order, [("w", 1), ("r", 1), ("w", 0), ("r", 0)]), (order, [("r", 1)])]))

    def test_just_where_every_sound_memory_reads_so(self):
        for test in small_tests():
            if is_sure(test) is not always_read_as_is_to_come(test):
                self.fail(test)


class Length(unittest.TestCase):
    def test_all_steps_of_all(self):
        self.assertEqual(1, length_of([("up", [("r", 1)])]))
        self.assertEqual(10, length_of(march_c()))
        self.assertEqual(48, length_of(eight_by_six()))
        self.assertEqual(8, length_of([GOOD] * 8))
        self.assertEqual(6, length_of([("up", [("w", 0)] * 6)]))

    def test_it_is_a_whole_number(self):
        self.assertIs(int, length_of([GOOD]).__class__)

    def test_steps_are_no_matter_but_their_count(self):
        for test in small_tests():
            self.assertEqual(sum(len(steps) for order, steps in test), length_of(test))


class WhatTakesATest(unittest.TestCase):
    def test_each_refuses_what_is_none(self):
        wrong = things_that_are_no_test()
        wrong += [[GOOD, thing] for thing in NO_PAIRS]
        wrong += [[("up", [("r", 0), thing])] for thing in NO_STEPS]
        for thing in wrong:
            with self.subTest(thing=thing), self.assertRaises(NoTest) as looked:
                look_at_test(thing)
            for taker in (is_sure, length_of, written):
                with self.subTest(taker=taker, thing=thing):
                    with self.assertRaises(NoTest) as caught:
                        taker(thing)
                    self.assertEqual(vars(looked.exception), vars(caught.exception))

    def test_ahead_of_all_else(self):
        # The read that comes too early would settle it already, were it looked at first.
        with self.assertRaises(NoTest) as caught:
            is_sure([("up", [("r", 0)]), GOOD, ("up", [("w", 0), ("w", True)])])
        self.assertEqual((2, 1), (caught.exception.element, caught.exception.step))

    def test_what_is_handed_in_stays_as_it_was(self):
        for test in (march_c(), eight_by_six(), [("up", [("r", 1)])]):
            before = copy.deepcopy(test)
            for taker in (look_at_test, is_sure, length_of, written):
                taker(test)
                self.assertEqual(before, test)

    def test_what_is_refused_stays_as_it_was(self):
        for test in ([GOOD, ("up", [("w", 0), ["r", 0]])], nine_times(), [["up", []]]):
            before = copy.deepcopy(test)
            for taker in (look_at_test, is_sure, length_of, written):
                with self.assertRaises(NoTest):
                    taker(test)
                self.assertEqual(before, test)

    def test_nothing_of_it_is_kept(self):
        steps = [("w", 0), ("r", 0)]
        test = [("up", steps)]
        self.assertEqual((True, 2, "up w0 r0"), (is_sure(test), length_of(test), written(test)))
        steps.append(("r", 1))
        self.assertEqual((False, 3, "up w0 r0 r1"), (is_sure(test), length_of(test), written(test)))
        test.append(("down", []))
        for taker in (look_at_test, is_sure, length_of, written):
            with self.assertRaises(NoTest):
                taker(test)
        test.pop()
        steps.pop()
        self.assertEqual((True, 2, "up w0 r0"), (is_sure(test), length_of(test), written(test)))

    def test_asked_twice_alike_told_alike(self):
        for test in (march_c(), [("up", [("r", 1)])]):
            for taker in (look_at_test, is_sure, length_of, written):
                self.assertEqual(taker(test), taker(copy.deepcopy(test)))


if __name__ == "__main__":
    unittest.main()
