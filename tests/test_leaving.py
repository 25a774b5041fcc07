import copy
import itertools
import random
import unittest

from marchmend.errors import NoHarms, NoMemory, NoOrders, NoTest, NotSure
from marchmend.harms import cells_of, little, placed
from marchmend.leaving import leaves_all, leaving_judged, leaving_of, leaving_shown
from marchmend.marches import look_at_test
from marchmend.texts import read, written
from plain import all_bits, orders_of, plain_leaving_reads, plain_leaving_shown
from samples import Case, Odd, all_on, march_c, of_any_kind, one_of_each_sort, small_tests, things_that_are_no_test

MADE = [
    ("any w0; up r0 w1; down r1 w0", "up r0 w1; down r1 w0"),
    ("any w0; up r0 w1; down r1", "up r0 w1; down r1; any r1 w0"),
    ("any w1; up r1 w0; down r0 w1", "up r0 w1; down r1 w0"),
    ("any w1; up r1 w0", "up r0 w1; any r1 w0"),
    ("any w0; any r0", "any r0"),
    ("any w1; any r1", "any r0"),
    # What was written last in the first one tells, not what was written first, nor what stood there.
    ("any w0 w1; up r1 w0 r0; down w1", "up r0 w1 r1; down w0"),
    ("any w1 w0; up r0 w0 r0", "up r0 w0 r0"),
    ("down w0 w0 w1 w0 w1 w1; down r1 w1 w0; up w0 r0 w0", "down r0 w0 w1; up w1 r1 w1; any r1 w0"),
    # Several that only write: the first alone is left out.
    ("any w0; up w1; down r1 w0", "up w1; down r1 w0"),
    ("any w0; up w1; down w0; any r0", "up w1; down w0; any r0"),
    ("any w1; up w1; any w0", "up w0; any w1; any r1 w0"),
    ("up w0; up r0 w1; up r1 w0; down r0 w1; down r1 w0; any r0", "up r0 w1; up r1 w0; down r0 w1; down r1 w0; any r0"),
    ("any w0; up r0 w1; up r1 w0; up r0 w1; up r1 w0; up r0 w1; up r1 w0; down r0 w1",
     "up r0 w1; up r1 w0; up r0 w1; up r1 w0; up r0 w1; up r1 w0; down r0 w1; any r1 w0"),
]
TESTS = ["any r0", "up r0 w1; down r1 w0", "any r0 w1; any r1 w0; any r0", "up r0 r0 w1 r1; any r1 w0 r0",
         "down w1; up r1 w0", "any r0 w1 r1 w0 r0", "up w1 w0", "up r0 w1; up r1 w0; down r0 w1; down r1 w0; any r0"]


class Making(Case):
    def test_known_ones(self):
        for text, expected in MADE:
            self.assertEqual(expected, written(leaving_of(read(text))), text)

    def test_what_is_made_leaves_everything_and_is_a_test(self):
        for text, expected in MADE:
            made = leaving_of(read(text))
            self.assertIsNone(look_at_test(made))
            self.assertIs(True, leaves_all(made))

    def test_of_one_element_nothing_is_left(self):
        for text in ("any w0", "up w1 w0", "down w0 w1 w0 w1 w0 w1"):
            self.refused(NotSure, leaving_of, read(text))

    def test_a_read_in_the_first_one(self):
        for text in ("any w0 r0; up r0 w1", "up w1 r1 w0; down r0", "any w0 r0", "any w0 w1 r1; any w0"):
            self.refused(NotSure, leaving_of, read(text))

    def test_not_sure(self):
        for text in ("any r0", "any w0; up r1", "up r1 w0; up r0", "any w0 w1; any r0", "any w0; up w1; down r0",
                     "any r0; any w0"):
            self.refused(NotSure, leaving_of, read(text))

    def test_no_test(self):
        for thing in things_that_are_no_test() + [[("up", [("r", True)])]]:
            self.refused(NoTest, leaving_of, thing)
            self.refused(NoTest, leaves_all, thing)
        caught = self.refused(NoTest, leaving_of, [("up", [("r", 0)]), ("up", [("w", 0), ("r", 2)])])
        self.assertEqual((1, 1), (caught.element, caught.step))

    def test_a_made_one_reads_and_writes_what_the_first_one_did(self):
        # On a sound memory that holds what the first element wrote, it goes as that one goes on.
        for text, expected in MADE:
            test = read(text)
            first = test[0][1][-1][1]
            made = leaving_of(test)
            for (order, steps), (other, told) in zip(test[1:], made):
                self.assertEqual(order, other)
                self.assertEqual(steps, [(letter, turn ^ first) for letter, turn in told])
            self.assertIn(made[len(test) - 1:], ([], [("any", [("r", 1), ("w", 0)])]))

    def test_all_small_ones(self):
        for test in small_tests():
            bits = {None}
            sure = True
            for letter, bit in test[0][1] + (test[1][1] if len(test) > 1 else []):
                sure = sure and (letter == "w" or bits == {bit})
                bits = {bit} if letter == "w" else bits
            if not sure or len(test) < 2 or any(letter == "r" for letter, bit in test[0][1]):
                self.refused(NotSure, leaving_of, test)
            else:
                made = leaving_of(test)
                self.assertEqual(2 if bits != {test[0][1][-1][1]} else 1, len(made))
                self.assertTrue(leaves_all(made))


class LeavesAll(unittest.TestCase):
    def test_known_ones(self):
        for text in ("any r0", "up r1", "any w0", "up w1 w0", "any r0 w1; down r1 w0", "any r0 w1; any r1 w0; any r0 r1"):
            self.assertIs(True, leaves_all(read(text)), text)
        for text in ("any w1", "up r0 w1", "any w0; any w1", "any w1; any r1 r1", "any r0 w0; down w0 w1; up r0"):
            self.assertIs(False, leaves_all(read(text)), text)

    def test_against_going_through(self):
        for test in itertools.islice(small_tests(), 0, None, 3):
            orders = orders_of(test)[-1]
            left = all(plain_leaving_reads(test, 2, [], contents, orders)[1] == contents for contents in all_bits(2))
            self.assertIs(left, leaves_all(test))


class Shown(unittest.TestCase):
    def shows(self, expected, text, size, harms, contents, orders):
        test = read(text)
        told = leaving_shown(test, size, harms, contents, orders)
        self.assertEqual(expected, told, (text, size, harms, contents, orders))
        self.assertEqual(expected, plain_leaving_shown(test, size, harms, contents, orders))

    def test_sound_ones(self):
        for contents in all_bits(3):
            self.shows(None, "up r0 w1; down r1 w0", 3, [], contents, ["up", "down"])
            self.shows(None, "any r0", 3, [], contents, ["down"])
            self.shows(None, "any w0 w1", 3, [], contents, ["down"])
            # Not sure, as it were: the second read is to be the other bit, and is not.
            self.shows(0, "up r0 r1", 3, [], contents, ["up"])
            self.shows(0, "down r0 w1 r0", 3, [], contents, ["down"])

    def test_stuck_cells(self):
        # Contents are those handed in, though the cell never held 0.
        self.shows(1, "up r0 w1; down r1 w0", 3, [("stuck", 1, 1)], [0, 0, 0], ["up", "down"])
        self.shows(1, "up r0 w1; down r1 w0", 3, [("stuck", 1, 1)], [0, 1, 0], ["up", "down"])
        self.shows(None, "up r0 w0; down r0", 3, [("stuck", 1, 1)], [0, 0, 0], ["up", "down"])
        # By that contents 0 turned is 1, and 1 is read; turned back it is 0, unlike the 1 that is read without.
        self.shows(0, "up w1 r1; down w0 r0", 1, [("stuck", 0, 1)], [0], ["up", "down"])

    def test_writes_go_by_the_contents_handed_in(self):
        # Address 0 reaches cell 1, and there writes what stood in cell 0 by the contents.
        self.shows(None, "up w0; up r0", 2, [("other", 0, 1)], [0, 1], ["up", "up"])
        # So address 1 reads 0 there at first, and 1 when it has written its own.
        self.shows(1, "up r0 w0; down r0", 2, [("other", 0, 1)], [0, 1], ["up", "down"])
        self.shows(None, "up r0 w0; down r0", 2, [("other", 0, 1)], [1, 1], ["up", "down"])
        # Cell 0 is turned; what is written into it goes by what was handed in all the same.
        self.shows(0, "up r0 w0; down r0 w1 r1", 2, [("turns", 1, 0, 1)], [0, 0], ["up", "down"])
        self.shows(None, "down w1; up w0 r0 w1 r1", 2, [("turns", 1, 0, 1)], [0, 0], ["down", "up"])

    def test_all_alike_though_none_is_what_stood_there(self):
        # It holds 0 and reads as 1 each time; nothing shows.
        self.shows(None, "any r0; any r0; any r0", 1, [("nowhere", 0, 1)], [0], ["up", "up", "up"])
        self.shows(None, "any r0 r0", 2, [("stuck", 1, 1)], [0, 0], ["up"])
        self.shows(None, "any r1 r1", 1, [], [0], ["up"])
        self.shows(0, "any r1 r0", 1, [], [0], ["up"])
        # One read alone never shows anything.
        for harm in one_of_each_sort():
            self.shows(None, "any w1 r1", 2, [harm], [0, 1], ["up"])

    def test_each_address_by_itself(self):
        self.shows(None, "any r0", 4, [], [0, 1, 0, 1], ["up"])
        self.shows(3, "up r0 w1; down r1", 4, [("slow", 3, 1)], [0, 0, 0, 0], ["up", "down"])
        self.shows(None, "up r0 w1; down r1", 4, [("slow", 3, 1)], [0, 0, 0, 1], ["up", "down"])

    def test_the_least_of_several(self):
        harms = [("stuck", 4, 1), ("stuck", 2, 0), ("stuck", 6, 1)]
        for orders in (["up", "up"], ["down", "down"], ["up", "down"]):
            self.shows(2, "any r0 w1; any r1", 8, harms, [0] * 8, orders)
            self.shows(4, "any r0 w1; any r1", 8, [harms[0], harms[2]], [1] * 8, orders)
            self.shows(0, "any r0 r1", 8, harms, [0] * 8, orders[:1])

    def test_against_another(self):
        source = random.Random(60)
        seen = {}
        for turn in range(1500):
            test = read(source.choice(TESTS + ["any r0 r1", "any w1; down r0 w0 r0"]))
            size = source.randrange(1, 8)
            cells = sorted(source.sample(range(size), min(size, 3)))
            harms = source.sample(all_on(cells), source.randrange(0, 4))
            contents = [source.randrange(2) for k in range(size)]
            orders = source.choice(orders_of(test))
            expected = plain_leaving_shown(test, size, harms, contents, orders)
            seen[expected] = seen.get(expected, 0) + 1
            self.assertEqual(expected, leaving_shown(test, size, harms, contents, orders))
        self.assertGreater(min(seen[None], seen[0], seen[1], seen[3]), 20)

    def test_the_greatest(self):
        contents = [k // 3 % 2 for k in range(64)]
        test = leaving_of(march_c())
        orders = ["up", "up", "down", "down", "up"]
        self.assertIsNone(leaving_shown(test, 64, [], contents, orders))
        self.assertEqual(63, leaving_shown(test, 64, [("stuck", 63, 1)], contents, orders))


class Judged(Case):
    def fits(self, test, harms):
        told = leaving_judged(test, harms)
        size = len(cells_of(harms))
        if all(plain_leaving_shown(test, size, little(harms), contents, orders) is not None
               for contents in all_bits(size) for orders in orders_of(test)):
            self.assertEqual(("told", None), told)
            return True
        self.assertEqual((tuple, "let", 3), (told.__class__, told[0], len(told)))
        self.assertEqual((tuple, size, list), (told[1].__class__, len(told[1]), told[2].__class__))
        self.assertIsNone(plain_leaving_shown(test, size, little(harms), list(told[1]), told[2]))
        self.assertIsNone(leaving_shown(test, size, little(harms), list(told[1]), told[2]))
        return False

    def test_known_ones(self):
        test = leaving_of(march_c())
        for harm in one_of_each_sort():
            self.assertIs(harm[0] not in ("forgets",), self.fits(test, [harm]), harm)
        self.assertEqual("let", leaving_judged(read("any r0"), [("stuck", 0, 1)])[0])
        self.assertEqual(("told", None), leaving_judged(read("any r0 w1; any r1 w0"), [("stuck", 0, 1)]))
        self.assertEqual(("told", None), leaving_judged(read("any r0 r0"), [("forgets", 0, 1), ("forgets", 0, 0)]))

    def test_first_contents_are_all_gone_through(self):
        # Only where it holds 1 at first does nothing show: then it need not rise.
        told = leaving_judged(read("any r0 w0 r0"), [("forgets", 0, 0)])
        self.assertEqual("let", told[0])
        self.assertEqual(("let", (1,)), leaving_judged(read("any r0 r0"), [("forgets", 0, 0)])[:2])
        self.assertEqual(("let", (0,)), leaving_judged(read("any r0 r0"), [("forgets", 0, 1)])[:2])
        # Of a stuck cell both are, though it holds the same: what is written hangs on them.
        self.assertTrue(self.fits(read("any r0 w1 r1"), [("stuck", 0, 1)]))

    def test_where_the_orders_are_free(self):
        # Only where cell 0 comes first is what it does to cell 1 written over.
        for one, other, taken, shows in ((0, 1, "up", "down"), (1, 0, "down", "up")):
            harms = [("turns", one, other, 0), ("turns", one, other, 1)]
            told = leaving_judged(read("any w1 r1; any r1"), harms)
            self.assertEqual(("let", taken), (told[0], told[2][0]))
            self.assertTrue(self.fits(read(f"{shows} w1 r1; any r1"), harms))
            self.assertFalse(self.fits(read(f"{taken} w1 r1; any r1"), harms))
        for text in ("any r0 w1; any r1 w0", "up r0 w1; any r1 w0", "any r0 w1; down r1 w0; any r0"):
            for harm in all_on([0, 1]):
                self.fits(read(text), [harm])

    def test_each_harm_alone(self):
        seen = {True: 0, False: 0}
        for text in TESTS:
            for harm in all_on([0, 1]):
                seen[self.fits(read(text), [harm])] += 1
        self.assertGreater(min(seen.values()), 50)

    def test_several(self):
        source = random.Random(61)
        seen = {True: 0, False: 0}
        for turn in range(700):
            harms = source.sample(all_on(sorted(source.sample(range(64), 3))), source.randrange(1, 4))
            seen[self.fits(read(source.choice(TESTS + ["any r0 r1"])), harms)] += 1
        self.assertGreater(min(seen.values()), 100)

    def test_in_greater_memories(self):
        source = random.Random(62)
        seen = {"told": 0, "let": 0}
        for turn in range(300):
            harms = source.sample(all_on([0, 1, 2]), source.randrange(1, 3))
            test = read(source.choice(TESTS))
            told = leaving_judged(test, harms)
            seen[told[0]] += 1
            for cells in ([0, 1, 2], [1, 3, 4], [0, 2, 5]):
                there = placed(harms, cells[:len(cells_of(harms))])
                contents = [source.randrange(2) for k in range(6)]
                if told[0] == "told":
                    for orders in orders_of(test)[:3]:
                        self.assertIn(leaving_shown(test, 6, there, contents, orders), cells)
                else:
                    for cell, bit in zip(cells_of(there), told[1]):
                        contents[cell] = bit
                    self.assertIsNone(leaving_shown(test, 6, there, contents, told[2]))
        self.assertGreater(min(seen.values()), 80)

    def test_placed_otherwise_it_is_told_the_same(self):
        for harm in all_on([0, 1]):
            for text in TESTS[:4]:
                there = placed([harm], [9, 63][:len(cells_of([harm]))])
                self.assertEqual(leaving_judged(read(text), [harm]), leaving_judged(read(text), there))

    def test_the_greatest(self):
        test = [("any", [("r", 0), ("w", 1), ("r", 1), ("w", 0), ("r", 0), ("w", 0)]) for k in range(8)]
        self.assertEqual(("told", None), leaving_judged(test, [("turns", 0, 1, 1), ("stuck", 2, 1), ("keeps", 1, 0, 1, 1)]))
        self.assertEqual("let", leaving_judged([("any", [("w", 0), ("w", 1)] * 3)] * 8, [("turns", 0, 1, 1),
                                                                                       ("turns", 1, 2, 1)])[0])


class Refusals(Case):
    GOOD = (read("any r0; up w1"), 2, [("slow", 1, 1)], [0, 1], ["up", "up"])

    def with_others(self, changes):
        given = list(copy.deepcopy(self.GOOD))
        for place, thing in changes.items():
            given[place] = thing
        return given

    def test_no_test_comes_first(self):
        for thing in things_that_are_no_test() + [[("up", [("r", True)])]]:
            self.refused(NoTest, leaving_shown, *self.with_others({0: thing}))
            self.refused(NoTest, leaving_shown, thing, None, None, None, None)
            for harms in ([("stuck", 0, 1)], [], None):
                self.refused(NoTest, leaving_judged, thing, harms)

    def test_then_harms_that_are_none(self):
        for thing in of_any_kind():
            if not isinstance(thing, list):
                self.assertIsNone(self.refused(NoHarms, leaving_shown, self.GOOD[0], 0, thing, 0, 0).number)
                self.assertIsNone(self.refused(NoHarms, leaving_judged, self.GOOD[0], thing).number)
            harms = [("slow", 0, 1), thing]
            self.assertEqual(1, self.refused(NoHarms, leaving_shown, self.GOOD[0], 0, harms, 0, 0).number)
            self.assertEqual(1, self.refused(NoHarms, leaving_judged, self.GOOD[0], harms).number)
        harms = [("turns", 0, 1, 1), ("turns", 2, 3, 1)]
        self.assertEqual(1, self.refused(NoHarms, leaving_judged, self.GOOD[0], harms).number)

    def test_none_of_the_harms(self):
        for text in ("any r0", "any w1; any r0", "up r0 r1"):
            self.assertIsNone(self.refused(NoHarms, leaving_judged, read(text), []).number)
        self.assertIsNone(leaving_shown(*self.with_others({2: []})))

    def test_nothing_hangs_on_whether_it_is_sure(self):
        for text in ("any r0", "up r0 r1", "any r1 w0", "any w0; up r1", "any w0 w1; any r0"):
            self.assertIn(leaving_judged(read(text), [("stuck", 0, 1)])[0], ("told", "let"))
        # In such a memory every cell shows something, whatever it holds.
        self.assertEqual(("told", None), leaving_judged(read("up r0 r1"), [("slow", 0, 1)]))

    def test_then_no_memory(self):
        for orders in (["up", "up"], None, []):
            for thing in of_any_kind() + [0, 65, True, "2"]:
                self.refused(NoMemory, leaving_shown, *self.with_others({1: thing, 4: orders}))
            self.refused(NoMemory, leaving_shown, *self.with_others({2: [("slow", 2, 1)], 4: orders}))
            for thing in of_any_kind() + [[], [0], [0, 0, 0], (0, 0), [0, True], [0, 2], [Odd(), 0]]:
                self.refused(NoMemory, leaving_shown, *self.with_others({3: thing, 4: orders}))

    def test_then_no_orders(self):
        for thing in of_any_kind() + [[], ["up"], ["up", "up", "up"], ("up", "up"), ["any", "up"], ["up", "down"],
                                      ["up", None], [Odd(), "up"]]:
            self.refused(NoOrders, leaving_shown, *self.with_others({4: thing}))


class HandedInAndTold(unittest.TestCase):
    def test_what_is_handed_in_stays_as_it_was(self):
        given = copy.deepcopy(Refusals.GOOD)
        leaving_shown(*given)
        leaving_judged(given[0], given[2])
        leaves_all(given[0])
        self.assertEqual(Refusals.GOOD, given)
        for text, expected in MADE:
            test = read(text)
            leaving_of(test)
            self.assertEqual(read(text), test)

    def test_what_is_told_may_be_changed(self):
        for text, expected in MADE:
            test = read(text)
            made = leaving_of(test)
            for order, steps in made:
                steps.clear()
            made.clear()
            self.assertEqual(read(text), test)
            self.assertEqual(expected, written(leaving_of(test)))
        told = leaving_judged(read("any r0; any r0"), [("slow", 0, 1)])
        before = copy.deepcopy(told)
        told[2].clear()
        self.assertEqual(before, leaving_judged(read("any r0; any r0"), [("slow", 0, 1)]))

    def test_what_was_handed_in_may_be_changed_behind_the_call(self):
        test = read("any w0; up r0 w1; down r1 w0")
        made = leaving_of(test)
        for order, steps in test:
            steps.clear()
        self.assertEqual("up r0 w1; down r1 w0", written(made))


if __name__ == "__main__":
    unittest.main()
