import copy
import itertools
import unittest

from marchmend.errors import MarchError, NoHarms, NoMemory, NoOrders, NoTest
from marchmend.harms import cells_of, little, placed
from marchmend.memory import Memory
from marchmend.running import first_shown, reads_of, run_on
from marchmend.texts import read
from plain import orders_of, plain_reads
from samples import (Case, Odd, all_on, eight_by_six, march_c, of_any_kind, one_of_each_sort,
                     things_that_are_no_test)

SHORT = "any w0; up r0 w1; down r1"


class WithoutHarms(unittest.TestCase):
    def test_up_and_down(self):
        test = read(SHORT)
        expected = [(1, 0, 0, 0), (1, 1, 0, 0), (1, 2, 0, 0), (2, 2, 0, 1), (2, 1, 0, 1), (2, 0, 0, 1)]
        for orders in (["up", "up", "down"], ["down", "up", "down"]):
            for contents in itertools.product((0, 1), repeat=3):
                self.assertEqual(expected, reads_of(test, 3, [], list(contents), orders))
                self.assertIsNone(first_shown(test, 3, [], list(contents), orders))
                self.assertEqual([0, 0, 0, 1, 1, 1], run_on(test, Memory(3, [], list(contents)), orders))

    def test_one_cell(self):
        self.assertEqual([(0, 0, 0, 1), (0, 0, 2, 0), (1, 0, 0, 0)],
                         reads_of(read("up r0 w0 r0; down r1"), 1, [], [1], ["up", "down"]))
        self.assertEqual((0, 0, 0), first_shown(read("up r0 w0 r0; down r1"), 1, [], [1], ["up", "down"]))
        self.assertEqual((1, 0, 0), first_shown(read("up r1 w0 r0; down r1"), 1, [], [1], ["up", "down"]))
        self.assertEqual([1, 0, 0], run_on(read("up r0 w0 r0; down r1"), Memory(1, [], [1]), ["up", "down"]))

    def test_all_steps_at_an_address_ahead_of_the_next_one(self):
        test = read("up r0 w1 r1 w0; down r0 r0")
        self.assertEqual([(0, 0, 0, 1), (0, 0, 2, 1), (0, 1, 0, 0), (0, 1, 2, 1),
                          (1, 1, 0, 0), (1, 1, 1, 0), (1, 0, 0, 0), (1, 0, 1, 0)],
                         reads_of(test, 2, [], [1, 0], ["up", "down"]))

    def test_an_element_that_is_free(self):
        test = read("any r0")
        self.assertEqual([(0, 0, 0, 0), (0, 1, 0, 0), (0, 2, 0, 1)], reads_of(test, 3, [], [0, 0, 1], ["up"]))
        self.assertEqual([(0, 2, 0, 1), (0, 1, 0, 0), (0, 0, 0, 0)], reads_of(test, 3, [], [0, 0, 1], ["down"]))
        self.assertEqual([0, 0, 1], run_on(test, Memory(3, [], [0, 0, 1]), ["up"]))
        self.assertEqual([1, 0, 0], run_on(test, Memory(3, [], [0, 0, 1]), ["down"]))
        self.assertEqual((0, 2, 0), first_shown(test, 3, [], [0, 0, 1], ["up"]))
        self.assertEqual((0, 2, 0), first_shown(test, 3, [], [1, 0, 1], ["down"]))
        self.assertEqual((0, 0, 0), first_shown(test, 3, [], [1, 0, 1], ["up"]))

    def test_without_reads(self):
        memory = Memory(3, [], [1, 0, 1])
        self.assertEqual([], run_on(read("any w0 w1; up w0"), memory, ["up", "up"]))
        self.assertEqual([0, 0, 0], memory.holds())
        self.assertEqual([], reads_of(read("any w0"), 3, [], [1, 0, 1], ["up"]))
        self.assertIsNone(first_shown(read("any w0"), 3, [], [1, 0, 1], ["up"]))

    def test_the_greatest(self):
        test = eight_by_six()
        orders = ["up" if order == "any" else order for order, steps in test]
        contents = [k % 2 for k in range(64)]
        told = reads_of(test, 64, [], contents, orders)
        self.assertEqual(plain_reads(test, 64, [], contents, orders), told)
        self.assertEqual([bit for element, address, step, bit in told], run_on(test, Memory(64, [], contents), orders))


class WithHarms(unittest.TestCase):
    def test_each_tuple(self):
        test = read(SHORT)
        orders = ["up", "up", "down"]
        self.assertEqual([(1, 0, 0, 0), (1, 1, 0, 1), (2, 1, 0, 1), (2, 0, 0, 1)],
                         reads_of(test, 2, [("turns", 0, 1, 1)], [0, 0], orders))
        self.assertEqual((1, 1, 0), first_shown(test, 2, [("turns", 0, 1, 1)], [0, 0], orders))
        self.assertEqual([(1, 0, 0, 0), (1, 1, 0, 0), (2, 1, 0, 1), (2, 0, 0, 0)],
                         reads_of(test, 2, [("turns", 1, 0, 1)], [0, 0], orders))
        self.assertEqual((2, 0, 0), first_shown(test, 2, [("turns", 1, 0, 1)], [0, 0], orders))
        self.assertEqual([(1, 0, 0, 0), (1, 1, 0, 0), (2, 1, 0, 1), (2, 0, 0, 1)],
                         reads_of(test, 2, [("turns", 0, 1, 0)], [0, 0], orders))
        self.assertIsNone(first_shown(test, 2, [("turns", 0, 1, 0)], [0, 0], orders))

    def test_what_shows_hangs_on_the_order(self):
        test = read("any w0; any r0 w1; up r1")
        harms = [("sets", 0, 1, 1, 1)]
        self.assertEqual((1, 1, 0), first_shown(test, 2, harms, [0, 0], ["up", "up", "up"]))
        self.assertIsNone(first_shown(test, 2, harms, [0, 0], ["up", "down", "up"]))

    def test_what_shows_hangs_on_what_was_there(self):
        test = read("up r0 w0 r0")
        self.assertIsNone(first_shown(test, 2, [("slow", 1, 0)], [0, 0], ["up"]))
        self.assertEqual((0, 1, 0), first_shown(test, 2, [("slow", 1, 0)], [0, 1], ["up"]))
        self.assertEqual([(0, 0, 0, 0), (0, 0, 2, 0), (0, 1, 0, 1), (0, 1, 2, 1)],
                         reads_of(test, 2, [("slow", 1, 0)], [0, 1], ["up"]))

    def test_the_first_that_shows_and_not_another(self):
        test = read("any w0; up r0 r0; down r0")
        harms = [("stuck", 1, 1), ("stuck", 2, 1)]
        self.assertEqual((1, 1, 0), first_shown(test, 4, harms, [0] * 4, ["up", "up", "down"]))
        self.assertEqual((1, 1, 1), first_shown(test, 4, [("forgets", 1, 0)], [0] * 4, ["up", "up", "down"]))
        self.assertEqual((0, 2, 0), first_shown(read("down r0; up r0"), 4, harms, [0] * 4, ["down", "up"]))

    def test_each_sort_against_another(self):
        tests = [march_c(), read("any w0; up r0 w1 r1 w0; any r0"), read("any r0 w1 r0; down r1 r1; up w0 r1")]
        for test in tests:
            for harm in all_on([0, 2]) + all_on([1]):
                for contents in ([0, 0, 0], [1, 0, 1], [0, 1, 1]):
                    for orders in orders_of(test):
                        expected = plain_reads(test, 3, [harm], contents, orders)
                        self.assertEqual(expected, reads_of(test, 3, [harm], contents, orders))
                        self.assertEqual([told[3] for told in expected],
                                         run_on(test, Memory(3, [harm], contents), orders))
                        shown = [told[:3] for told in expected if told[3] != test[told[0]][1][told[2]][1]]
                        self.assertEqual(shown[0] if shown else None,
                                         first_shown(test, 3, [harm], contents, orders))

    def test_kinds_of_what_is_told(self):
        told = reads_of(read(SHORT), 2, [("stuck", 0, 1)], [0, 0], ["up", "up", "down"])
        self.assertIs(list, told.__class__)
        for each in told:
            self.assertIs(tuple, each.__class__)
            self.assertEqual([int] * 4, [part.__class__ for part in each])
        self.assertIs(tuple, first_shown(read(SHORT), 2, [("stuck", 0, 1)], [0, 0], ["up", "up", "down"]).__class__)


class OnAMemory(unittest.TestCase):
    def test_a_second_time_it_goes_on_from_what_it_holds(self):
        memory = Memory(2, [], [0, 1])
        self.assertEqual([0, 1], run_on(read("up r0 w1"), memory, ["up"]))
        self.assertEqual([1, 1], memory.holds())
        self.assertEqual([1, 1], run_on(read("up r0 w1"), memory, ["up"]))
        self.assertEqual([1, 1], run_on(read("down r0 w0"), memory, ["down"]))
        self.assertEqual([0, 0], memory.holds())

    def test_a_harmed_one(self):
        memory = Memory(3, [("turns", 0, 2, 1), ("forgets", 1, 1)], [0, 0, 0])
        self.assertEqual([0, 0, 1], run_on(read("up r0 w1"), memory, ["up"]))
        self.assertEqual([1, 1, 1], memory.holds())
        self.assertEqual([1, 1, 1], run_on(read("down r1"), memory, ["down"]))
        self.assertEqual([1, 0, 1], memory.holds())
        self.assertEqual([1, 0, 1], run_on(read("down r1"), memory, ["down"]))

    def test_one_that_was_written_ahead(self):
        memory = Memory(2, [("keeps", 0, 1, 1, 0)], [0, 1])
        memory.write(0, 1)
        self.assertEqual([1, 0], run_on(read("any r0"), memory, ["up"]))

    def test_whatever_is_read_and_written_likewise(self):
        # Another class with the same methods is run on, too.
        class Counted:
            def __init__(self):
                self.deeds = []

            def size(self):
                return 2

            def read(self, address):
                self.deeds.append(("r", address))
                return address

            def write(self, address, bit):
                self.deeds.append(("w", address, bit))

        memory = Counted()
        self.assertEqual([1, 0], run_on(read("down w1 r1"), memory, ["down"]))
        self.assertEqual([("w", 1, 1), ("r", 1), ("w", 0, 1), ("r", 0)], memory.deeds)


class Orders(Case):
    def test_all_that_fit(self):
        test = read("any w0; up r0; down r0; any r0")
        memory = Memory(2, [], [0, 0])
        for orders in itertools.product(("up", "down"), repeat=4):
            if orders[1:3] == ("up", "down"):
                self.assertEqual([0] * 6, run_on(test, memory, list(orders)))
                self.assertEqual(6, len(reads_of(test, 2, [], [0, 0], list(orders))))
                self.assertIsNone(first_shown(test, 2, [], [0, 0], list(orders)))
            else:
                self.refused_by_all(test, list(orders))

    def refused_by_all(self, test, orders):
        memory = Memory(2, [], [1, 0])
        self.refused(NoOrders, run_on, test, memory, orders)
        self.assertEqual([1, 0], memory.holds())
        self.refused(NoOrders, reads_of, test, 2, [("stuck", 0, 1)], [1, 0], orders)
        self.refused(NoOrders, first_shown, test, 2, [("stuck", 0, 1)], [1, 0], orders)

    def test_too_few_and_too_many(self):
        test = read("any w0; any r0")
        for orders in ([], ["up"], ["up"] * 3, ["up"] * 9, ["up"] * 1000):
            self.refused_by_all(test, orders)

    def test_against_its_own(self):
        self.refused_by_all(read("up w0"), ["down"])
        self.refused_by_all(read("down w0"), ["up"])
        self.refused_by_all(read("any w0; down r0; any r0"), ["up", "up", "up"])

    def test_any_is_none(self):
        for order in ("any", "up", "down"):
            self.refused_by_all(read(order + " w0"), ["any"])
        self.refused_by_all(read("any w0; up r0"), ["any", "up"])

    def test_of_other_kinds(self):
        for thing in of_any_kind():
            with self.subTest(thing=thing):
                self.refused_by_all(read("any w0"), thing)
                self.refused_by_all(read("any w0"), [thing] if thing != "up" else [["up"]])
                self.refused_by_all(read("any w0; any r0"), ["up", thing if thing != "up" else "Up"])
        for orders in (("up", "down"), "up", {0: "up", 1: "up"}, ["up", "down "], ["UP", "up"], [("up",), "up"],
                       [Odd(), "up"], ["up", b"up"]):
            self.refused_by_all(read("any w0; any r0"), orders)


class WhatComesFirst(Case):
    def test_no_test(self):
        memory = Memory(2, [], [1, 0])
        for thing in things_that_are_no_test() + [[("up", [("r", True)])]]:
            with self.subTest(thing=thing):
                self.refused(NoTest, run_on, thing, memory, ["up"])
                self.refused(NoTest, run_on, thing, memory, None)
                for asker in (reads_of, first_shown):
                    self.refused(NoTest, asker, thing, 2, [], [0, 0], ["up"])
                    self.refused(NoTest, asker, thing, 2, None, [0, 0], ["up"])
                    self.refused(NoTest, asker, thing, 0, [None], None, None)
        self.assertEqual([1, 0], memory.holds())
        caught = self.refused(NoTest, reads_of, [("up", [("w", 0)]), ("up", [("w", 0), ("r", 2)])], 0, 0, 0, 0)
        self.assertEqual((1, 1), (caught.element, caught.step))

    def test_then_no_harms(self):
        for asker in (reads_of, first_shown):
            for size, contents, orders in ((2, [0, 0], ["up"]), (0, [], ["up"]), (2, None, None), (2, [0, 0], None)):
                self.assertIsNone(self.refused(NoHarms, asker, read("any w0"), size, None, contents, orders).number)
                self.assertEqual(1, self.refused(NoHarms, asker, read("any w0"), size, [("stuck", 0, 1), None],
                                                 contents, orders).number)

    def test_then_no_memory(self):
        for asker in (reads_of, first_shown):
            for orders in (["up"], None, ["any"], []):
                self.refused(NoMemory, asker, read("any w0"), 0, [], [], orders)
                self.refused(NoMemory, asker, read("any w0"), 65, [], [0] * 65, orders)
                self.refused(NoMemory, asker, read("any w0"), True, [], [0], orders)
                self.refused(NoMemory, asker, read("any w0"), 2, [("stuck", 2, 1)], [0, 0], orders)
                self.refused(NoMemory, asker, read("any w0"), 2, [], [0, True], orders)
                self.refused(NoMemory, asker, read("any w0"), 2, [], (0, 0), orders)

    def test_what_is_refused_leaves_the_memory(self):
        memory = Memory(2, [("turns", 0, 1, 1)], [0, 1])
        self.refused(NoTest, run_on, [("up", [("w", 1)]), None], memory, ["up", "up"])
        self.refused(NoOrders, run_on, read("any w1; up w1"), memory, ["up", "down"])
        self.assertEqual([0, 1], memory.holds())


class Placed(unittest.TestCase):
    """What is read at the cells of the harms hangs on them alone."""

    def holds_for(self, test, harms, cells, size, contents, orders):
        there = placed(harms, cells)
        told = reads_of(test, size, there, contents, orders)
        small = reads_of(test, len(cells), little(harms), [contents[cell] for cell in cells], orders)
        self.assertEqual([(element, cells[address], step, bit) for element, address, step, bit in small],
                         [each for each in told if each[1] in cells])
        sound = reads_of(test, size, [], contents, orders)
        self.assertEqual([each for each in sound if each[1] not in cells],
                         [each for each in told if each[1] not in cells])

    def test_each_sort_alone(self):
        tests = [march_c(), read("any r0 w1 r0; down r1 r1 w0; up r0 w1 w0 r1")]
        for test in tests:
            for harm in all_on([0, 1]):
                for cells in ([0, 1], [1, 4], [2, 3]):
                    for contents in ([0, 0, 0, 0, 0], [1, 0, 1, 1, 0], [0, 1, 0, 0, 1], [1, 1, 1, 1, 1]):
                        for orders in orders_of(test)[:3]:
                            own = cells[:len(cells_of([harm]))]
                            self.holds_for(test, [harm], own, 5, contents, orders)

    def test_several(self):
        chosen = all_on([0, 1, 2])
        test = read("any r1 w0; up r0 w1 r1; down r1 w0 r0 w1; any r1")
        for number in range(0, len(chosen) ** 3, 1009):
            harms = [chosen[number % len(chosen)], chosen[number // len(chosen) % len(chosen)],
                     chosen[number // len(chosen) ** 2]]
            cells = [[0, 1, 2], [1, 3, 6], [0, 4, 5], [4, 5, 6]][number % 4][:len(cells_of(harms))]
            contents = [number // (k + 2) % 2 for k in range(7)]
            self.holds_for(test, harms, cells, 7, contents, orders_of(test)[number % 4])

    def test_at_the_end_of_the_greatest(self):
        for harm in one_of_each_sort():
            contents = [k // 3 % 2 for k in range(64)]
            cells = [30, 63][-len(cells_of([harm])):]
            self.holds_for(march_c(), [harm], cells, 64, contents, ["up", "up", "up", "down", "down", "down"])


class HandedInAndTold(unittest.TestCase):
    def test_what_is_handed_in_stays_as_it_was(self):
        given = [read(SHORT), 2, [("keeps", 0, 1, 1, 0)], [1, 1], ["up", "up", "down"]]
        for wrong in (given, given[:4] + [["up", "down", "up"]], given[:3] + [[1], given[4]]):
            before = copy.deepcopy(wrong)
            for asker in (reads_of, first_shown):
                try:
                    asker(*wrong)
                except MarchError:
                    pass
                self.assertEqual(before, wrong)
        test, orders = read(SHORT), ["up", "up", "down"]
        run_on(test, Memory(2, [], [0, 0]), orders)
        self.assertEqual((read(SHORT), ["up", "up", "down"]), (test, orders))

    def test_told_lists_are_the_askers_own(self):
        given = [read(SHORT), 2, [("slow", 0, 1)], [1, 1], ["up", "up", "down"]]
        told = reads_of(*given)
        expected = list(told)
        told[0] = None
        told.append(5)
        self.assertEqual(expected, reads_of(*given))
        memory = Memory(2, [], [0, 1])
        bits = run_on(read("any r0"), memory, ["up"])
        bits[0] = 1
        bits.clear()
        self.assertEqual([0, 1], memory.holds())
        self.assertEqual([0, 1], run_on(read("any r0"), memory, ["up"]))

    def test_what_was_handed_in_may_be_changed_behind_the_call(self):
        test, harms, contents, orders = read("any r0"), [("slow", 0, 1)], [1, 1], ["up"]
        told = reads_of(test, 2, harms, contents, orders)
        test.clear()
        harms.clear()
        contents.clear()
        orders.clear()
        self.assertEqual([(0, 0, 0, 1), (0, 1, 0, 1)], told)
        self.assertEqual([(0, 0, 0, 1), (0, 1, 0, 1)], reads_of(read("any r0"), 2, [("slow", 0, 1)], [1, 1], ["up"]))

    def test_asked_twice_alike_told_alike(self):
        given = [march_c(), 3, [("turns", 0, 2, 1), ("forgets", 1, 0)], [1, 0, 1], ["up"] * 3 + ["down"] * 3]
        for asker in (reads_of, first_shown):
            self.assertEqual(asker(*given), asker(*copy.deepcopy(given)))


if __name__ == "__main__":
    unittest.main()
