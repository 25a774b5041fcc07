import copy
import itertools
import unittest

from marchmend.errors import NoHarms, NotSure, NoTest
from marchmend.harms import cells_of, little, placed
from marchmend.judging import judged
from marchmend.memory import Memory
from marchmend.running import first_shown, run_on
from marchmend.tables import lets_table
from marchmend.texts import read
from plain import all_bits, orders_of, plain_table, plainly_shows, plainly_told
from samples import Case, all_on, march_c, of_any_kind, one_of_each_sort, things_that_are_no_test

TESTS = ["any w0; any r0", "any w0; up r0 w1; down r1 w0", "up w1; down r1 w0 r0; up r0 w1 r1",
         "any w0 r0 r0; any w1 r1 r1", "down w0; up r0 w1; up r1 w0; down r0 w1; down r1 w0; any r0",
         "any w0; any r0 w1 r1 w0; any r0", "down w1 w0 r0; down r0 w1 w0 w1; up r1 r1", "any w1; any w0",
         "any w0; up r0 r0 w1 r1 r1 w0; up r0 w1; down r1 w0 w1; down r1 w0; any r0 r0"]

# By hand: a test that tells each of these harms, and one that lets it by.
KNOWN = [
    (("stuck", 0, 0), "any w1; any r1", "any w0; any r0"),
    (("stuck", 0, 1), "any w0; any r0", "any w1; any r1"),
    (("slow", 0, 1), "any w0; any w1 r1", "any w1 r1; any w0 r0"),
    (("slow", 0, 0), "any w1; any w0 r0", "any w0 r0; any w1 r1"),
    (("forgets", 0, 0), "any w0; any r0 r0", "any w0; any r0 w0; any r0"),
    (("forgets", 0, 1), "any w1 r1; any r1", "any w1; any r1"),
    (("misreads", 0, 0), "any w0; any r0", "any w1; any r1 r1"),
    (("misreads", 0, 1), "any w1 r1", "any w0 r0"),
    (("turns", 0, 1, 1), "any w0; up r0 w1", "any w0; down r0 w1"),
    (("turns", 1, 0, 1), "any w0; down r0 w1", "any w0; up r0 w1; down w1 r1"),
    (("turns", 1, 0, 0), "any w1; down r1 w0", "any w1; up w0"),
    (("sets", 0, 1, 1, 1), "any w0; up r0 w1", "any w0; down r0 w1; any r1"),
    (("sets", 1, 0, 0, 1), "any w1; up r1 w0; any r0", "any w1; down r1 w0; any r0"),
    (("keeps", 0, 1, 0, 1), "any w0; any r0", "any w1; any r1"),
    (("keeps", 0, 1, 1, 1), "any w1; down w0; any r0", "any w0; any r0"),
    (("nowhere", 0, 0), "any w1; any r1", "any w0; any r0"),
    (("nowhere", 0, 1), "any w0; any r0", "any w1; any r1"),
    (("other", 0, 1), "any w0; up r0 w1", "any w0 r0; any w1 r1"),
    (("other", 1, 0), "any w0; down r0 w1", "any w0; any r0; any w1; any r1"),
    (("both", 0, 1, "or"), "any w0; up r0 w1", "any w0; any r0"),
    (("both", 0, 1, "and"), "any w1; up r1 w0", "any w1; any r1; any w0; any r0"),
]


class Judging(Case):
    def tells(self, test, harms):
        told = judged(test, harms)
        self.assertEqual(("told", 2), (told[0], len(told)), (test, harms))
        self.assertIs(tuple, told.__class__)
        self.assertIs(True, lets_table(test, harms, told[1]))
        return told[1]

    def lets(self, test, harms):
        told = judged(test, harms)
        self.assertEqual(("let", 3), (told[0], len(told)), (test, harms))
        self.assertIs(tuple, told.__class__)
        self.assertIs(tuple, told[1].__class__)
        self.assertIs(list, told[2].__class__)
        size = len(cells_of(harms))
        self.assertEqual(size, len(told[1]))
        self.assertIsNone(first_shown(test, size, little(harms), list(told[1]), told[2]))
        self.assertFalse(plainly_shows(test, size, little(harms), list(told[1]), told[2]))
        return told[1], told[2]

    def fits_going_through(self, test, harms):
        """The verdict is that of going through all contents and orders of the little memory."""
        if plainly_told(test, len(cells_of(harms)), little(harms)):
            return self.tells(test, harms)
        return self.lets(test, harms)


class Known(Judging):
    def test_each_sort_is_there(self):
        self.assertEqual({harm[0] for harm in one_of_each_sort()}, {harm for (harm, *rest), tells, lets in KNOWN})

    def test_one_that_tells_it(self):
        for harm, tells, lets in KNOWN:
            self.tells(read(tells), [harm])

    def test_one_that_lets_it_by(self):
        for harm, tells, lets in KNOWN:
            self.lets(read(lets), [harm])

    def test_march_c_tells_all_but_what_forgets(self):
        for harm in all_on([0, 1]):
            if harm[0] == "forgets":
                self.lets(march_c(), [harm])
            else:
                self.tells(march_c(), [harm])

    def test_a_test_without_reads_tells_nothing(self):
        for harm in all_on([0, 1]):
            self.lets(read("any w0 w1; up w0; down w1 w0"), [harm])

    def test_where_the_orders_are_free(self):
        # Only if cell 0 is gone over ahead of cell 1 does something show.
        harms = [("turns", 0, 1, 1)]
        self.tells(read("any w0; up r0 w1"), harms)
        contents, orders = self.lets(read("any w0; any r0 w1"), harms)
        self.assertEqual("down", orders[1])
        contents, orders = self.lets(read("any w0; down r0 w1"), harms)
        self.assertEqual("down", orders[1])
        contents, orders = self.lets(read("any w0; any r0 w1"), [("turns", 1, 0, 1)])
        self.assertEqual("up", orders[1])

    def test_where_it_hangs_on_what_was_there(self):
        test = read("any w1 r1")
        contents, orders = self.lets(test, [("slow", 0, 1)])
        self.assertEqual((1,), contents)
        contents, orders = self.lets(test, [("slow", 7, 1), ("slow", 9, 1)])
        self.assertEqual((1, 1), contents)
        contents, orders = self.lets(read("any w0 r0"), [("slow", 7, 0), ("slow", 9, 0)])
        self.assertEqual((0, 0), contents)

    def test_several_of_which_one_hides_another(self):
        test = read("any w0; up r0 w1; down r1")
        self.tells(test, [("turns", 0, 1, 1)])
        self.lets(test, [("turns", 0, 1, 1), ("turns", 0, 1, 1)])
        self.lets(test, [("turns", 0, 1, 1), ("sets", 0, 1, 1, 0)])
        self.tells(test, [("sets", 0, 1, 1, 0), ("turns", 0, 1, 1)])
        self.tells(read("any w0; any r0"), [("nowhere", 0, 1)])
        self.lets(read("any w0; any r0"), [("nowhere", 0, 0), ("nowhere", 0, 1)])
        self.lets(read("any w1; any r1"), [("stuck", 0, 1), ("slow", 0, 1), ("misreads", 0, 1)])


class AgainstGoingThrough(Judging):
    def test_each_sort_alone(self):
        for text in TESTS:
            for harm in all_on([0, 1]):
                self.fits_going_through(read(text), [harm])

    def test_two_on_two_cells(self):
        chosen = list(itertools.product(all_on([0, 1]), repeat=2))
        for number, harms in enumerate(chosen):
            if number % 5 == 0:
                self.fits_going_through(read(TESTS[number // 5 % len(TESTS)]), list(harms))

    def test_two_and_three_on_one_cell(self):
        chosen = all_on([0])
        for number, harms in enumerate(list(itertools.product(chosen, repeat=2))):
            self.fits_going_through(read(TESTS[number % len(TESTS)]), list(harms))
        for number, harms in enumerate(list(itertools.product(chosen, repeat=3))):
            self.fits_going_through(read(TESTS[number % len(TESTS)]), list(harms))

    def test_some_on_three_cells(self):
        chosen = all_on([0, 1, 2])
        for number in range(0, len(chosen) ** 3, 2003):
            harms = [chosen[number % len(chosen)], chosen[number // len(chosen) % len(chosen)],
                     chosen[number // len(chosen) ** 2]]
            self.fits_going_through(read(TESTS[number % len(TESTS)]), harms)

    def test_harms_that_are_not_little(self):
        for harm in all_on([0, 1]):
            for text in TESTS[:4]:
                harms = placed([harm], [9, 60][:len(cells_of([harm]))])
                self.assertEqual(judged(read(text), little([harm])), judged(read(text), harms))

    def test_three_keeps_that_chase_one_another(self):
        # Made of what it would hold, such a memory may hold something else: the contents told are those
        # of which it is made.
        for bits in itertools.product((0, 1), repeat=6):
            harms = [("keeps", 0, 1, bits[0], bits[1]), ("keeps", 1, 2, bits[2], bits[3]),
                     ("keeps", 2, 0, bits[4], bits[5])]
            for text in ("any w0 w1; any w0", "any w1 r1; any w0", "any w0 r0", "any w1 r1"):
                self.fits_going_through(read(text), harms)


class InGreaterMemories(Judging):
    def places(self, count, size):
        return [list(cells) for cells in itertools.combinations(range(size), count)]

    def test_what_is_told_shows_everywhere(self):
        for text in ("any w0; up r0 w1; down r1 w0", "any w0; any r0 w1 r1 w0; any r0"):
            test = read(text)
            for harm in all_on([0, 1]):
                if judged(test, [harm])[0] == "told":
                    for size in (1, 2, 3, 4):
                        for cells in self.places(len(cells_of([harm])), size):
                            self.assertTrue(plainly_told(test, size, placed(little([harm]), cells)))

    def test_what_is_told_of_several_shows_everywhere(self):
        test = read("any w0; up r0 w1; down r1 w0 r0")
        chosen = all_on([0, 1, 2])
        for number in range(0, len(chosen) ** 2, 41):
            harms = [chosen[number % len(chosen)], chosen[number // len(chosen)]]
            if judged(test, harms)[0] == "told":
                for cells in self.places(len(cells_of(harms)), 4):
                    there = placed(harms, cells)
                    self.assertTrue(plainly_told(test, 4, there))
                    self.assertIsNotNone(first_shown(test, 4, there, [1, 0, 0, 1], orders_of(test)[0]))

    def test_what_is_let_by_shows_nowhere(self):
        for text in TESTS:
            test = read(text)
            for harm in all_on([0, 1]):
                told = judged(test, [harm])
                if told[0] == "let":
                    for cells in ([0, 1], [1, 3], [2, 3]):
                        own = cells[:len(cells_of([harm]))]
                        for rest in ([0, 0, 0, 0], [1, 1, 1, 1], [0, 1, 1, 0]):
                            contents = list(rest)
                            for cell, bit in zip(own, told[1]):
                                contents[cell] = bit
                            there = placed(little([harm]), own)
                            self.assertIsNone(first_shown(test, 4, there, contents, told[2]))


class Tables(Judging):
    def test_by_hand(self):
        one, two = [(1,)], [(0,), (1,)]
        self.assertEqual(("told", [(one, [one], [one]), (one, [one], [one])]),
                         judged(read("any w0; any r0"), [("stuck", 5, 1)]))
        self.assertEqual(("told", [(two, [two], None), (one, None, [one, [(0,)]])]),
                         judged(read("up w1; down r1 r1"), [("forgets", 5, 1)]))
        self.assertEqual(("told", [(two, None, [two, one, [], []]), ([], [[]], [[]])]),
                         judged(read("down w1 r1 w0 r0; any r0"), [("misreads", 0, 1)]))
        four = [(0, 0), (0, 1), (1, 0), (1, 1)]
        self.assertEqual(("told", [(four, [four, [(0, 0), (0, 1)]], None),
                                   ([(0, 0)], [[(0, 0)], [(0, 0)], [(1, 1)], []], None)]),
                         judged(read("up w0; up r0 w1"), [("turns", 3, 8, 1)]))
        self.assertEqual(("told", [(four, None, [four, [(0, 0), (1, 0)]]),
                                   ([(0, 0)], None, [[(0, 0)], [(0, 0)], [(1, 1)], []])]),
                         judged(read("down w0; down r0 w1"), [("turns", 8, 3, 1)]))
        three = [(0, 1), (1, 0), (1, 1)]
        self.assertEqual(("told", [(three, [three, [(0, 1)]], None), ([(0, 1)], [[(0, 1)], [(0, 1)]], None)]),
                         judged(read("up w0; up r0"), [("keeps", 0, 1, 0, 1)]))

    def test_just_those_contents_that_come_so(self):
        for text in TESTS:
            test = read(text)
            for harm in all_on([0, 1]):
                told = judged(test, [harm])
                table, behind = plain_table(test, len(cells_of([harm])), little([harm]))
                self.assertEqual("let" if behind else "told", told[0])
                if not behind:
                    self.assertEqual(table, told[1])

    def test_just_those_contents_that_come_so_of_several(self):
        chosen = all_on([0, 1, 2])
        seen = 0
        for number in range(0, len(chosen) ** 3, 3001):
            harms = [chosen[number % len(chosen)], chosen[number // len(chosen) % len(chosen)],
                     chosen[number // len(chosen) ** 2]]
            test = read(TESTS[number % len(TESTS)])
            told = judged(test, harms)
            table, behind = plain_table(test, len(cells_of(harms)), little(harms))
            self.assertEqual("let" if behind else "told", told[0])
            if not behind:
                seen += 1
                self.assertEqual(table, told[1])
        self.assertGreater(seen, 50)

    def test_its_form(self):
        for text in TESTS + ["up w0 r0; down r0 w1; any r1 w0; any r0"]:
            test = read(text)
            for harm in all_on([0, 1]):
                told = judged(test, [harm])
                if told[0] == "told":
                    self.has_form(test, len(cells_of([harm])), told[1])

    def has_form(self, test, size, table):
        self.assertIs(list, table.__class__)
        self.assertEqual(len(test), len(table))
        lists = []
        for (order, steps), row in zip(test, table):
            self.assertIs(tuple, row.__class__)
            ahead, up, down = row
            self.assertEqual((order == "down", order == "up"), (up is None, down is None))
            lists.append(ahead)
            for column in (up, down):
                if column is not None:
                    self.assertIs(list, column.__class__)
                    self.assertEqual(size * len(steps), len(column))
                    self.assertEqual(ahead, column[0])
                    lists += column
        self.assertEqual(len(lists), len({id(each) for each in lists}))
        for each in lists:
            self.assertIs(list, each.__class__)
            self.assertEqual(sorted(set(each)), each)
            for contents in each:
                self.assertEqual((tuple, size), (contents.__class__, len(contents)))
                self.assertLessEqual(set(contents), {0, 1})

    def test_the_greatest(self):
        test = [("any", [("w", 0), ("r", 0), ("w", 1), ("r", 1), ("w", 0), ("r", 0)]) for k in range(8)]
        table = self.tells(test, [("turns", 0, 1, 1), ("stuck", 2, 1), ("keeps", 1, 0, 1, 1)])
        self.has_form(test, 3, table)
        self.lets([("any", [("w", 0), ("w", 1), ("w", 0)] * 2) for k in range(8)],
                  [("turns", 0, 1, 1), ("turns", 1, 2, 1), ("keeps", 1, 0, 1, 1)])


class Refusals(Case):
    ASKERS = [judged, lambda test, harms: lets_table(test, harms, []),
              lambda test, harms: lets_table(test, harms, None)]

    def test_no_test_comes_first(self):
        for thing in things_that_are_no_test() + [[("up", [("r", True)])]]:
            for asker in self.ASKERS:
                for harms in ([("stuck", 0, 1)], [], None, [None]):
                    self.refused(NoTest, asker, thing, harms)
        caught = self.refused(NoTest, judged, [("up", [("r", 0)]), ("up", [("w", 0), ("r", 2)])], None)
        self.assertEqual((1, 1), (caught.element, caught.step))

    def test_then_harms_that_are_none(self):
        for asker in self.ASKERS:
            for text in ("any w0; any r0", "any r0", "any w0; up r1"):
                for thing in of_any_kind():
                    if not isinstance(thing, list):
                        self.assertIsNone(self.refused(NoHarms, asker, read(text), thing).number)
                    self.assertEqual(0, self.refused(NoHarms, asker, read(text), [thing]).number)
                    self.assertEqual(1, self.refused(NoHarms, asker, read(text), [("slow", 0, 1), thing]).number)
                self.assertIsNone(self.refused(NoHarms, asker, read(text), [("slow", 0, 1)] * 4).number)
                harms = [("turns", 0, 1, 1), ("turns", 2, 3, 1)]
                self.assertEqual(1, self.refused(NoHarms, asker, read(text), harms).number)

    def test_then_a_test_that_is_not_sure(self):
        for asker in self.ASKERS:
            for text in ("any r0", "any w0; up r1", "up r1 w0", "any w0 w1; any r0"):
                self.refused(NotSure, asker, read(text), [("stuck", 0, 1)])
                self.refused(NotSure, asker, read(text), [])

    def test_then_no_harms(self):
        for asker in self.ASKERS:
            for text in ("any w0; any r0", "any w1"):
                self.assertIsNone(self.refused(NoHarms, asker, read(text), []).number)


class HandedInAndTold(unittest.TestCase):
    def test_what_is_handed_in_stays_as_it_was(self):
        for text in TESTS:
            for harms in ([("turns", 4, 2, 1)], [("keeps", 4, 2, 1, 1), ("stuck", 4, 0), ("slow", 7, 1)]):
                test = read(text)
                before = copy.deepcopy(harms)
                judged(test, harms)
                self.assertEqual((read(text), before), (test, harms))

    def test_what_is_told_may_be_changed(self):
        test = read("any w0; up r0 w1; down r1 w0")
        for harms in ([("stuck", 3, 1)], [("other", 3, 1)], [("slow", 0, 1), ("turns", 2, 1, 0)]):
            told = judged(test, harms)
            expected = copy.deepcopy(told)
            if told[0] == "let":
                told[2].append("up")
                told[2][0] = None
            else:
                for ahead, up, down in told[1]:
                    ahead.append(None)
                    for column in (up, down):
                        if column is not None:
                            column[0].clear()
                            column.append(5)
                told[1].pop()
            self.assertEqual(expected, judged(test, harms))

    def test_lists_within_are_no_lists_twice(self):
        table = judged(read("any w0; any r0"), [("stuck", 0, 1)])[1]
        table[0][0].clear()
        self.assertEqual([[(1,)]], table[0][1])
        table[0][1][0].clear()
        self.assertEqual([[(1,)]], table[0][2])
        self.assertEqual(([(1,)], [[(1,)]], [[(1,)]]), table[1])

    def test_what_was_handed_in_may_be_changed_behind_the_call(self):
        test, harms = read("any w0; any r0"), [("slow", 0, 1)]
        told = judged(test, harms)
        expected = copy.deepcopy(told)
        test.clear()
        harms.clear()
        self.assertEqual(expected, told)
        self.assertEqual(expected, judged(read("any w0; any r0"), [("slow", 0, 1)]))

    def test_asked_twice_alike_told_alike(self):
        for text in TESTS:
            for harm in all_on([0, 1]):
                self.assertEqual(judged(read(text), [harm]), judged(read(text), [harm]))

    def test_the_contents_told_are_held_where_they_can_be(self):
        for harm in all_on([0, 1]):
            told = judged(read("any w0 w1"), [harm])
            memory = Memory(len(told[1]), little([harm]), list(told[1]))
            self.assertEqual(list(told[1]), memory.holds())

    def test_the_contents_told_make_a_memory(self):
        for harm in all_on([0, 1]):
            told = judged(read("any w0 w1"), [harm])
            memory = Memory(len(told[1]), little([harm]), list(told[1]))
            self.assertEqual([], run_on(read("any w0 w1"), memory, told[2]))
            self.assertIn(memory.holds(), all_bits(len(told[1])))


if __name__ == "__main__":
    unittest.main()
