import copy
import time
import unittest

from marchmend.errors import NoHarms, NoOrders, NoTest
from marchmend.kinds import KINDS
from marchmend.memory import Memory
from marchmend.naming import contents_for, fitting
from marchmend.running import run_on
from marchmend.texts import read
from plain import all_bits, orders_of, plain_reads
from samples import Case, all_on, eight_by_six, march_c, of_any_kind, one_of_each_sort, things_that_are_no_test

ALL = list(KINDS)


def bits_of(test, size, orders, harms, contents):
    return [told[3] for told in plain_reads(test, size, harms, contents, orders)]


def by_reads(test, size, orders):
    """For all that may be read: the lists of harms by which it is, by going through all first contents."""
    found = {}
    for harms in [[]] + [[harm] for harm in all_on(range(size))]:
        for contents in all_bits(size):
            fits = found.setdefault(tuple(bits_of(test, size, orders, harms, contents)), [])
            if harms not in fits:
                fits.append(harms)
    return {bits: sorted(fits) for bits, fits in found.items()}


class ByHand(unittest.TestCase):
    def test_one_cell(self):
        test = read("up w1 r1")
        self.assertEqual([[]], fitting(test, 1, ["up"], [1], []))
        self.assertEqual([], fitting(test, 1, ["up"], [0], []))
        self.assertEqual([[("stuck", 0, 0)]], fitting(test, 1, ["up"], [0], ["stuck"]))
        self.assertEqual([[], [("stuck", 0, 1)]], fitting(test, 1, ["up"], [1], ["stuck"]))
        self.assertEqual([[], [("slow", 0, 0)], [("slow", 0, 1)]], fitting(test, 1, ["up"], [1], ["slow"]))
        self.assertEqual([[("slow", 0, 1)]], fitting(test, 1, ["up"], [0], ["slow"]))
        self.assertEqual([[("misreads", 0, 1)], [("nowhere", 0, 0)], [("slow", 0, 1)], [("stuck", 0, 0)]],
                         fitting(test, 1, ["up"], [0], ALL))

    def test_two_cells(self):
        test = read("any w0; up r0 w1")
        self.assertEqual([[]], fitting(test, 2, ["up", "up"], [0, 0], []))
        self.assertEqual([[("turns", 0, 1, 1)]], fitting(test, 2, ["up", "up"], [0, 1], ["turns"]))
        self.assertEqual([[("sets", 0, 1, 1, 1)], [("turns", 0, 1, 1)]],
                         fitting(test, 2, ["up", "up"], [0, 1], ["turns", "sets"]))
        self.assertEqual([[("sets", 0, 1, 1, 1)], [("turns", 0, 1, 1)]],
                         fitting(test, 2, ["up", "up"], [0, 1], ["sets", "turns"]))
        self.assertEqual([[("other", 0, 1)], [("other", 1, 0)]], fitting(test, 2, ["up", "up"], [0, 1], ["other"]))
        self.assertEqual([], fitting(test, 2, ["up", "up"], [1, 1], ALL))

    def test_two_cells_that_are_both_wrong(self):
        # Only a harm that has both cells could be at the bottom of it.
        self.assertEqual([], fitting(read("up w0 r0 w1 r1"), 2, ["up"], [1, 1, 1, 1], ALL))

    def test_a_cell_that_another_address_writes(self):
        self.assertEqual([[("both", 0, 1, "and")], [("both", 1, 0, "and")], [("both", 1, 0, "or")], [("other", 0, 1)],
                          [("other", 1, 0)]],
                         fitting(read("any w1; down r1 w0"), 2, ["up", "down"], [1, 0], ["both", "other"]))

    def test_a_test_that_begins_with_a_read(self):
        test = read("up r0")
        self.assertEqual([[]], fitting(test, 2, ["up"], [1, 0], []))
        self.assertEqual([[], [("stuck", 0, 1)], [("stuck", 1, 0)]], fitting(test, 2, ["up"], [1, 0], ["stuck"]))
        self.assertEqual([1, 0], contents_for(test, 2, ["up"], [1, 0], []))
        self.assertEqual([0, 1], contents_for(read("down r0"), 2, ["down"], [1, 0], []))

    def test_without_reads(self):
        test = read("any w0")
        self.assertEqual([[]] + sorted([harm] for harm in all_on([0, 1])), fitting(test, 2, ["up"], [], ALL))
        self.assertEqual([], fitting(test, 2, ["up"], [0], ALL))

    def test_no_kinds(self):
        self.assertEqual([[]], fitting(march_c(), 2, ["up"] * 3 + ["down"] * 3, [0, 0, 1, 1, 0, 0, 1, 1, 0, 0], []))
        self.assertEqual([], fitting(march_c(), 2, ["up"] * 3 + ["down"] * 3, [0, 0, 1, 1, 0, 0, 1, 1, 0, 1], []))

    def test_more_or_fewer_bits(self):
        test, orders = read("any w0; up r0 w1; down r1"), ["up", "up", "down"]
        self.assertEqual([[]], fitting(test, 2, orders, [0, 0, 1, 1], []))
        for reads in ([], [0], [0, 0, 1], [0, 0, 1, 1, 1], [0, 0, 1, 1, 0], [0, 0, 1, 1] * 2, [0, 0, 1, 1] * 100):
            self.assertEqual([], fitting(test, 2, orders, reads, []))
            self.assertEqual([], fitting(test, 2, orders, reads, ALL))
            self.assertIsNone(contents_for(test, 2, orders, reads, []))
            self.assertIsNone(contents_for(test, 2, orders, reads, [("stuck", 0, 1)]))

    def test_of_one_cell_no_harm_of_two(self):
        for harms in fitting(read("any r0"), 1, ["up"], [1], ALL):
            self.assertIn(harms, [[]] + [[harm] for harm in all_on([0])])

    def test_a_harm_that_is_not_below_the_size(self):
        self.assertIsNone(contents_for(read("any r0"), 2, ["up"], [1, 1], [("stuck", 2, 1)]))
        self.assertIsNone(contents_for(read("any r0"), 2, ["up"], [1, 1], [("turns", 0, 2, 1)]))


class ByGoingThrough(unittest.TestCase):
    TESTS = ["any w0; up r0 w1; down r1", "up r0 w1 r0; any r1 w0", "any r0; any r0 r0", "down w1 r0 w0; up r0 r1 w1",
             "any w0 r0; any w1 r1; any r1"]

    def all_fit(self, test, size, orders, pace):
        found = by_reads(test, size, orders)
        for number, (bits, fits) in enumerate(sorted(found.items())):
            if number % pace == 0:
                self.assertEqual(fits, fitting(test, size, orders, list(bits), ALL))
                for harms in fits[:3] + fits[-3:]:
                    contents = contents_for(test, size, orders, list(bits), harms)
                    self.assertEqual(list, contents.__class__)
                    self.assertEqual(list(bits), run_on(test, Memory(size, harms, contents), orders))
        return found

    def test_all_that_may_be_read_of_one_and_two_cells(self):
        for text in self.TESTS:
            test = read(text)
            for size in (1, 2):
                for orders in orders_of(test):
                    self.all_fit(test, size, orders, 1)

    def test_some_that_may_be_read_of_three_cells(self):
        for number, text in enumerate(self.TESTS):
            test = read(text)
            self.all_fit(test, 3, orders_of(test)[number % len(orders_of(test))], 11)

    def test_some_that_may_be_read_of_four_and_five_cells(self):
        test = read("any r0 w0; up r0 w1")
        self.all_fit(test, 4, ["down", "up"], 29)
        self.all_fit(read("up w0 w1 r1; down r1 w0"), 5, ["up", "down"], 29)

    def test_kinds_that_are_not_asked_for_are_not_told(self):
        test, orders = read("up r0 w1 r0; any r1 w0"), ["up", "down"]
        found = by_reads(test, 2, orders)
        for bits, fits in found.items():
            for kinds in [[kind] for kind in ALL] + [ALL[:3], ["both", "stuck"], ["turns", "sets", "keeps"], []]:
                expected = [harms for harms in fits if not harms or harms[0][0] in kinds]
                self.assertEqual(expected, fitting(test, 2, orders, list(bits), kinds))

    def test_contents_for_each_that_fits_and_none_for_the_others(self):
        for text in ("any w0; up r0 w1; down r1", "any r0; any w0 r0 r0"):
            test = read(text)
            orders = orders_of(test)[-1]
            found = by_reads(test, 2, orders)
            for bits, fits in found.items():
                for harms in [[]] + [[harm] for harm in all_on([0, 1])]:
                    told = contents_for(test, 2, orders, list(bits), harms)
                    if harms in fits:
                        self.assertEqual(list(bits), bits_of(test, 2, orders, harms, told))
                        self.assertEqual([int, int], [bit.__class__ for bit in told])
                    else:
                        self.assertIsNone(told)

    def test_each_sort_is_found_again(self):
        test = march_c()
        for orders in (["up"] * 3 + ["down"] * 3, ["down", "up", "up", "down", "down", "up"]):
            for harm in one_of_each_sort():
                for contents in ([0, 0, 0, 0], [1, 0, 1, 1]):
                    reads = run_on(test, Memory(4, [harm], contents), orders)
                    self.assertIn([harm], fitting(test, 4, orders, reads, [harm[0]]))
                    self.assertIn([harm], fitting(test, 4, orders, reads, ALL))
                    told = contents_for(test, 4, orders, reads, [harm])
                    self.assertEqual(reads, run_on(test, Memory(4, [harm], told), orders))

    def test_one_bit_turned(self):
        test, orders = march_c(), ["up"] * 3 + ["down"] * 3
        reads = run_on(test, Memory(3, [], [0, 0, 0]), orders)
        found = by_reads(test, 3, orders)
        for place in range(len(reads)):
            turned = list(reads)
            turned[place] = 1 - turned[place]
            self.assertEqual(found.get(tuple(turned), []), fitting(test, 3, orders, turned, ALL))
            self.assertIsNone(contents_for(test, 3, orders, turned, []))


class TheGreatest(unittest.TestCase):
    def is_quick(self, test, reads_by, size):
        orders = ["down" if order == "any" else order for order, steps in test]
        reads = run_on(test, reads_by, orders)
        start = time.perf_counter()
        told = fitting(test, size, orders, reads, ALL)
        contents = contents_for(test, size, orders, reads, told[-1])
        self.assertLess(time.perf_counter() - start, 5)
        self.assertEqual(reads, run_on(test, Memory(size, told[-1], contents), orders))
        return told

    def test_five_cells_and_eight_elements_of_six_steps(self):
        self.is_quick(eight_by_six(), Memory(5, [], [0, 1, 0, 1, 1]), 5)
        sure = [("any", [("w", 0), ("r", 0), ("w", 1), ("r", 1), ("w", 0), ("r", 0)]) for k in range(8)]
        for harms in ([], [("slow", 4, 1)], [("keeps", 3, 1, 1, 0)], [("other", 0, 4)]):
            told = self.is_quick(sure, Memory(5, harms, [0, 1, 0, 1, 1]), 5)
            self.assertIn(harms, told)
        writes = [("any", [("w", 0), ("w", 1)] * 3) for k in range(8)]
        self.assertEqual([[]] + sorted([harm] for harm in all_on(range(5))),
                         self.is_quick(writes, Memory(5, [], [0] * 5), 5))

    def test_somewhat_more_cells(self):
        test = march_c()
        told = self.is_quick(test, Memory(8, [("turns", 7, 2, 1)], [0] * 8), 8)
        self.assertIn([("turns", 7, 2, 1)], told)

    def test_first_contents_of_all_cells_together_are_not_gone_through(self):
        test = read("any r0 w1 r1")
        contents = [k // 3 % 2 for k in range(64)]
        reads = run_on(test, Memory(64, [("slow", 40, 1)], contents), ["down"])
        start = time.perf_counter()
        told = contents_for(test, 64, ["down"], reads, [("slow", 40, 1)])
        self.assertLess(time.perf_counter() - start, 5)
        self.assertEqual(contents, told)


class Refusals(Case):
    def test_no_test_comes_first(self):
        for thing in things_that_are_no_test() + [[("up", [("r", True)])]]:
            for orders in (["up"], None, []):
                self.refused(NoTest, fitting, thing, 1, orders, [0], [])
                self.refused(NoTest, contents_for, thing, 1, orders, [0], [])
                self.refused(NoTest, contents_for, thing, 1, orders, [0], None)
        caught = self.refused(NoTest, fitting, [("up", [("r", 0)]), ("up", [("w", 0), ("r", 2)])], 1, None, [], [])
        self.assertEqual((1, 1), (caught.element, caught.step))

    def test_then_no_harms(self):
        for orders in (["up"], None):
            self.assertIsNone(self.refused(NoHarms, contents_for, read("any r0"), 1, orders, [0], None).number)
            self.assertEqual(0, self.refused(NoHarms, contents_for, read("any r0"), 1, orders, [0], [None]).number)

    def test_then_no_orders(self):
        wrong = of_any_kind() + [[], ["up"], ["up"] * 3, ["any", "up"], ["up", "down"], ("up", "up")]
        for orders in wrong:
            with self.subTest(orders=orders):
                self.refused(NoOrders, fitting, read("any w0; up r0"), 1, orders, [0], ["stuck"])
                self.refused(NoOrders, fitting, read("any w0; up r0"), 1, orders, [0, 0, 0], [])
                self.refused(NoOrders, contents_for, read("any w0; up r0"), 1, orders, [0], [])
                self.refused(NoOrders, contents_for, read("any w0; up r0"), 1, orders, [], [("stuck", 0, 1)])

    def test_a_test_that_is_not_sure_is_not_refused(self):
        self.assertEqual([[]], fitting(read("any w0; any r1"), 1, ["up", "up"], [0], []))
        self.assertEqual([], fitting(read("any w0; any r1"), 1, ["up", "up"], [1], []))


class HandedInAndTold(unittest.TestCase):
    def test_what_is_handed_in_stays_as_it_was(self):
        given = [read("any r0 w1; up r1"), 3, ["down", "up"], [0, 1, 0, 1, 1, 0], ["stuck", "both"]]
        before = copy.deepcopy(given)
        fitting(*given)
        self.assertEqual(before, given)
        given[4] = [("slow", 2, 1)]
        before = copy.deepcopy(given)
        contents_for(*given)
        self.assertEqual(before, given)

    def test_told_lists_are_the_askers_own(self):
        given = [read("any r0 w1; up r1"), 2, ["down", "up"], [0, 1, 1, 1], ["stuck", "slow"]]
        told = fitting(*given)
        expected = copy.deepcopy(told)
        self.assertGreater(len(told), 2)
        told[0].append(None)
        told[1].clear()
        told.pop()
        self.assertEqual(expected, fitting(*given))
        contents = contents_for(*given[:4], [])
        contents[0] = None
        self.assertEqual([1, 0], contents_for(*given[:4], []))

    def test_asked_twice_alike_told_alike(self):
        given = [read("any r0 w1; up r1"), 3, ["down", "up"], [0, 1, 0, 1, 1, 1], ALL]
        self.assertEqual(fitting(*given), fitting(*copy.deepcopy(given)))
        for harms in fitting(*given):
            self.assertEqual(contents_for(*given[:4], harms), contents_for(*given[:4], harms))


if __name__ == "__main__":
    unittest.main()
