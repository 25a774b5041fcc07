import copy
import itertools
import unittest

from marchmend.harms import cells_of, little
from marchmend.judging import judged
from marchmend.tables import lets_table
from marchmend.texts import read
from plain import close, firsts_of, plain_table, plainly_lets
from samples import Odd, all_on, march_c, of_any_kind

ZERO, ONE, TWO = [(0,)], [(1,)], [(0,), (1,)]
STUCK = (read("any w0; any r0"), [("stuck", 5, 1)])
FORGETS = (read("up w1; down r1 r1"), [("forgets", 5, 1)])
KEEPS = (read("up w0; up r0"), [("keeps", 0, 1, 0, 1)])
TURNS = (read("up w0; up r0 w1"), [("turns", 3, 8, 1)])
THREE = [(0, 1), (1, 0), (1, 1)]
FOUR = [(0, 0), (0, 1), (1, 0), (1, 1)]


def for_stuck():
    return [([(1,)], [[(1,)]], [[(1,)]]), ([(1,)], [[(1,)]], [[(1,)]])]


def for_forgets():
    return [([(0,), (1,)], [[(0,), (1,)]], None), ([(1,)], None, [[(1,)], [(0,)]])]


def lists_within(table):
    found = []
    for ahead, up, down in table:
        found += [ahead] + (up or []) + (down or [])
    return found


class Case(unittest.TestCase):
    def lets(self, asked, table):
        self.assertIs(True, lets_table(*asked, table), table)

    def refuses(self, asked, thing):
        self.assertIs(False, lets_table(*asked, thing), thing)


class WrittenByOthers(Case):
    def test_just_what_comes_so(self):
        self.lets(STUCK, for_stuck())
        self.lets(FORGETS, for_forgets())

    def test_unsorted(self):
        self.lets(FORGETS, [([(1,), (0,)], [[(1,), (0,)]], None), (ONE, None, [ONE, ZERO])])
        self.lets(FORGETS, [([(1,), (0,)], [TWO], None), (ONE, None, [ONE, ZERO])])

    def test_one_list_at_several_places(self):
        self.lets(STUCK, [(ONE, [ONE], [ONE])] * 2)

    def test_more_than_comes_so_where_that_is_closed(self):
        # What reads another bit than is to come leads nowhere.
        self.lets(FORGETS, [(TWO, [TWO], None), (ONE, None, [TWO, ZERO])])
        self.lets(FORGETS, [(TWO, [TWO], None), (TWO, None, [TWO, ZERO])])

    def test_more_than_comes_so_where_that_is_not_closed(self):
        self.refuses(FORGETS, [(TWO, [TWO], None), (TWO, None, [ONE, ZERO])])
        self.refuses(FORGETS, [(TWO, [TWO], None), (ONE, None, [ONE, TWO])])

    def test_contents_behind_the_last_step(self):
        # With 1 ahead of the last step it reads what is to come, and 0 stands behind it.
        self.refuses(FORGETS, [(TWO, [TWO], None), (TWO, None, [TWO, TWO])])
        self.refuses((read("any w0; any r0"), [("stuck", 0, 0)]), [(ZERO, [ZERO], [ZERO]), (ZERO, [ZERO], [ZERO])])
        self.refuses((read("up w0"), [("stuck", 0, 0)]), [(ZERO, [ZERO], None)])
        self.refuses((read("up w0"), [("slow", 0, 0)]), [(TWO, [TWO], None)])

    def test_one_less(self):
        for asked, table in ((STUCK, for_stuck()), (FORGETS, for_forgets())):
            for number, each in enumerate(lists_within(table)):
                for place in range(len(each)):
                    edited = copy.deepcopy(table)
                    lists_within(edited)[number].pop(place)
                    self.refuses(asked, edited)

    def test_what_can_not_stand_at_first_need_not(self):
        self.lets(KEEPS, [(THREE, [THREE, [(0, 1)]], None), ([(0, 1)], [[(0, 1)], [(0, 1)]], None)])
        self.refuses(KEEPS, [(THREE[1:], [THREE, [(0, 1)]], None), ([(0, 1)], [[(0, 1)], [(0, 1)]], None)])

    def test_a_little_memory_holds_just_the_contents_told(self):
        # Cell 0 holds 0, so at first 1 would hold 1; but here both hold 0, until 1 is written.
        rest = ([(0, 1)], [[(0, 1)], [(0, 1)]], None)
        self.lets(KEEPS, [(FOUR, [FOUR, [(0, 0), (0, 1)]], None), rest])
        self.refuses(KEEPS, [(FOUR, [FOUR, [(0, 1)]], None), rest])
        self.refuses(KEEPS, [(THREE, [THREE, [(0, 1)]], None), ([(0, 1)], [[(0, 1)], [(0, 0), (0, 1)]], None)])

    def test_of_two_cells(self):
        first = (FOUR, [FOUR, [(0, 0), (0, 1)]], None)
        self.lets(TURNS, [first, ([(0, 0)], [[(0, 0)], [(0, 0)], [(1, 1)], []], None)])
        self.refuses(TURNS, [first, ([(0, 0)], [[(0, 0)], [(0, 0)], [(1, 0)], []], None)])
        self.refuses(TURNS, [first, ([(0, 0)], [[(0, 0)], [(0, 0)], [], []], None)])
        self.refuses(TURNS, [first, ([(0, 0)], [[(0, 0)], [(0, 0)], [(1, 1)], [(1, 0)]], None)])
        self.refuses(TURNS, [first, ([], [[(0, 0)], [(0, 0)], [(1, 1)], []], None)])
        # Ahead of what the element begins with nothing else is asked of its first step.
        self.lets(TURNS, [first, ([(0, 0)], [[(1, 0), (0, 0), (1, 1)], [(0, 0)], [(1, 1)], []], None)])

    def test_both_ways_of_a_free_one(self):
        asked = (read("any w0; any r0 w1"), [("stuck", 0, 1)])
        good = [(ONE, [ONE], [ONE]), (ONE, [ONE, []], [ONE, []])]
        self.lets(asked, good)
        self.refuses(asked, [(ONE, [ONE], [ONE]), (ONE, [ONE, []], [[], []])])
        self.refuses(asked, [(ONE, [ONE], [ONE]), (ONE, [[], []], [ONE, []])])
        self.refuses(asked, [(ONE, [ONE], [[]]), (ONE, [ONE, []], [ONE, []])])
        self.refuses(asked, [(ONE, [ONE], [ONE]), (ONE, [ONE, ONE], [ONE, []])])
        self.refuses(asked, [(ONE, [ONE], [ONE]), (ONE, [ONE, []], [ONE, ONE])])

    def test_for_harms_that_are_let_by_there_is_none(self):
        for text in ("any w0; any r0", "any w0; up r0 w1; any r1"):
            for harm in (("slow", 0, 0), ("forgets", 0, 0), ("turns", 0, 1, 0)):
                table, behind = plain_table(read(text), len(cells_of([harm])), [harm])
                self.assertNotEqual([], behind)
                self.refuses((read(text), [harm]), table)


class Form(Case):
    def test_of_any_kind(self):
        for thing in of_any_kind() + [[], [[]], [()], [None, None], [(), ()], [([], [], [])] * 2, ("told", for_stuck()),
                                      tuple(for_stuck()), dict(enumerate(for_stuck())), "told", 1]:
            for asked in (STUCK, FORGETS, KEEPS, TURNS):
                self.refuses(asked, thing)

    def test_too_few_or_too_many(self):
        table = for_stuck()
        self.refuses(STUCK, table[:1])
        self.refuses(STUCK, table + [copy.deepcopy(table[1])])
        self.refuses(STUCK, table * 500)

    def test_things_in_the_place_of_a_row(self):
        good = for_stuck()[0]
        for thing in of_any_kind() + [[], list(good), good[:2], good + (None,), good + ([],), good[0]]:
            for place in (0, 1):
                table = for_stuck()
                table[place] = thing
                self.refuses(STUCK, table)

    def test_things_in_the_place_of_a_list(self):
        for thing in of_any_kind() + [(), ((1,),), {(1,): True}, [1], [[1]], (1,)]:
            for place in range(3):
                for row in (0, 1):
                    table = [list(each) for each in for_stuck()]
                    table[row][place] = thing
                    self.refuses(STUCK, [tuple(each) for each in table])
                    if place > 0:
                        table[row][place] = [thing]
                        self.refuses(STUCK, [tuple(each) for each in table])
                        table[row][place] = [[(1,)], thing]
                        self.refuses(STUCK, [tuple(each) for each in table])

    def test_things_in_the_place_of_contents(self):
        things = of_any_kind() + [1, [1], (), (1, 1), (1, 0), (1, None), (2,), (-1,), (True,), (False,), ("1",),
                                  (None,), ([1],), ((1,),), (Odd(),), "1"]
        for number in range(len(lists_within(for_stuck()))):
            for thing in things:
                table = for_stuck()
                lists_within(table)[number].append(thing)
                self.refuses(STUCK, table)
                lists_within(table)[number][:] = [thing]
                self.refuses(STUCK, table)

    def test_truths_in_the_place_of_bits(self):
        true, false = [(True,)], [(False,)]
        self.refuses(STUCK, [(true, [true], [true])] * 2)
        self.refuses(STUCK, [(ONE, [ONE], [ONE]), (ONE, [true], [ONE])])
        self.refuses(FORGETS, [(TWO, [TWO], None), (ONE, None, [ONE, false])])
        self.refuses(FORGETS, [(TWO, [TWO], None), (true, None, [ONE, ZERO])])
        self.refuses(FORGETS, [([(False,), (True,)], [TWO], None), (ONE, None, [ONE, ZERO])])

    def test_one_twice(self):
        for asked, table in ((STUCK, for_stuck()), (FORGETS, for_forgets())):
            for number, each in enumerate(lists_within(table)):
                edited = copy.deepcopy(table)
                lists_within(edited)[number].append(each[0])
                self.refuses(asked, edited)

    def test_a_stuck_cell_that_holds_the_other_bit(self):
        for number in range(len(lists_within(for_stuck()))):
            table = for_stuck()
            lists_within(table)[number].append((0,))
            self.refuses(STUCK, table)
        # Of two stuck on a cell the first one tells.
        both = [("stuck", 0, 1), ("stuck", 0, 0)]
        self.lets((STUCK[0], both), for_stuck())
        self.refuses((STUCK[0], both[::-1]), for_stuck())
        # It need lead nowhere, and yet is none that may stand.
        asked = (read("up w0; up r0"), [("stuck", 1, 1), ("slow", 0, 1)])
        table = judged(*asked)[1]
        self.lets(asked, table)
        table[1][1][1].append((1, 1))
        self.lets(asked, table)
        table[1][1][1].append((1, 0))
        self.refuses(asked, table)

    def test_none_and_lists_in_each_others_place(self):
        first, last = for_forgets()
        self.refuses(FORGETS, [(first[0], None, None), last])
        self.refuses(FORGETS, [(first[0], None, first[1]), last])
        self.refuses(FORGETS, [(first[0], first[1], [TWO]), last])
        self.refuses(FORGETS, [(first[0], first[1], []), last])
        self.refuses(FORGETS, [(first[0], first[1], False), last])
        self.refuses(FORGETS, [(first[0], first[1], Odd()), last])
        self.refuses(FORGETS, [first, (last[0], [ONE, ZERO], last[2])])
        self.refuses(FORGETS, [first, (last[0], [ONE, ZERO], None)])
        self.refuses(FORGETS, [first, (last[0], None, None)])
        self.refuses(FORGETS, [(None, first[1], None), last])
        self.refuses(STUCK, [(ONE, [ONE], None), (ONE, [ONE], [ONE])])
        self.refuses(STUCK, [(ONE, [ONE], [ONE]), (ONE, None, [ONE])])

    def test_too_few_or_too_many_lists(self):
        first, last = for_forgets()
        self.refuses(FORGETS, [first, (last[0], None, last[2][:1])])
        self.refuses(FORGETS, [first, (last[0], None, last[2] + [[]])])
        self.refuses(FORGETS, [(first[0], [], None), last])
        self.refuses(FORGETS, [(first[0], [TWO, TWO], None), last])
        self.refuses(FORGETS, [first, (last[0], None, tuple(last[2]))])

    def test_a_table_that_holds_itself(self):
        knot = []
        knot += [knot, knot]
        self.refuses(STUCK, knot)
        self.refuses(STUCK, [(knot, knot, knot)] * 2)
        table = for_stuck()
        table[0][1][0] = table[0][1]
        self.refuses(STUCK, table)

    def test_a_table_for_something_else(self):
        self.refuses(FORGETS, for_stuck())
        self.refuses(STUCK, for_forgets())
        table = judged(march_c(), [("turns", 0, 1, 1)])[1]
        self.refuses((march_c(), [("turns", 1, 0, 1)]), table)
        self.refuses((march_c(), [("stuck", 0, 1)]), table)
        self.lets((march_c(), [("turns", 5, 30, 1)]), table)


class AgainstAnother(Case):
    CASES = [(read(text), harms) for text, harms in (
        ("any w0; up r0 w1; down r1 w0", [("other", 0, 1)]), ("any w0; up r0 w1; up r1 w0 r0", [("keeps", 1, 0, 1, 1)]),
        ("down w1; up r1 w0 r0; any r0", [("slow", 0, 0), ("turns", 1, 0, 0)]),
        ("any w0; any r0 r0", [("forgets", 0, 0)]), ("any w0; any r0 w1 r1", [("both", 1, 0, "or")]),
        ("up w0; any r0", [("keeps", 0, 1, 0, 1), ("stuck", 2, 0)]),
        ("down w1; down r1 w0; up r0", [("keeps", 0, 1, 1, 0), ("keeps", 1, 2, 1, 0)]))]

    def test_each_table_with_one_more_or_one_less(self):
        seen = {True: 0, False: 0}
        for test, harms in self.CASES:
            size = len(cells_of(harms))
            table = judged(test, harms)[1]
            self.assertTrue(plainly_lets(test, size, little(harms), table))
            for number in range(len(lists_within(table))):
                for contents in itertools.product((0, 1), repeat=size):
                    if self.may_stand(harms, contents):
                        edited = copy.deepcopy(table)
                        each = lists_within(edited)[number]
                        if contents in each:
                            each.remove(contents)
                        else:
                            each.insert(0, contents)
                        expected = plainly_lets(test, size, little(harms), edited)
                        seen[expected] += 1
                        self.assertIs(expected, lets_table(test, harms, edited))
        self.assertGreater(min(seen.values()), 50)

    def may_stand(self, harms, contents):
        return all(contents[harm[1]] == harm[2] for harm in little(harms) if harm[0] == "stuck")

    def test_each_table_with_one_more_and_what_that_asks_for(self):
        seen = {True: 0, False: 0}
        for test, harms in self.CASES:
            size = len(cells_of(harms))
            table = judged(test, harms)[1]
            for number in range(len(lists_within(table))):
                for contents in itertools.product((0, 1), repeat=size):
                    if self.may_stand(harms, contents) and contents not in lists_within(table)[number]:
                        edited = copy.deepcopy(table)
                        lists_within(edited)[number].append(contents)
                        over = close(test, size, little(harms), edited)
                        seen[over] += 1
                        self.assertIs(not over, lets_table(test, harms, edited))
        self.assertGreater(min(seen.values()), 5)

    def test_whatever_is_let_by_is_told(self):
        # All tables of one list for each place, for a test of one step each: none is let by, or it is told.
        for text in ("up w0; up r0", "up w1; down r1"):
            for harm in all_on([0]):
                test = read(text)
                some = False
                for chosen in itertools.product(([], ZERO, ONE, TWO), repeat=4):
                    column = [chosen[3]]
                    last = (chosen[2], column, None) if test[1][0] == "up" else (chosen[2], None, column)
                    some = lets_table(test, [harm], [(chosen[0], [chosen[1]], None), last]) or some
                self.assertEqual("told" if some else "let", judged(test, [harm])[0])

    def test_tables_that_were_told(self):
        for text in ("any w0; up r0 w1; down r1 w0", "any w0; up r0 w1; up r1 w0; down r0 w1; down r1 w0; any r0"):
            for harm in all_on([0, 1]):
                told = judged(read(text), [harm])
                if told[0] == "told":
                    self.lets((read(text), [harm]), told[1])
                    self.assertLessEqual(set(firsts_of(len(cells_of([harm])), little([harm]))), set(told[1][0][0]))


class HandedIn(Case):
    def test_what_is_handed_in_stays_as_it_was(self):
        for asked, table in ((STUCK, for_stuck()), (FORGETS, for_forgets()), (STUCK, for_forgets()),
                             (STUCK, [5, None])):
            before = copy.deepcopy((asked, table))
            lets_table(*asked, table)
            self.assertEqual(before, (asked, table))

    def test_nothing_of_it_is_kept(self):
        table = for_forgets()
        self.lets(FORGETS, table)
        table[1][2][1].clear()
        self.refuses(FORGETS, table)
        table[1][2][1].append((0,))
        self.lets(FORGETS, table)


if __name__ == "__main__":
    unittest.main()
