import copy
import itertools
import random
import unittest

from marchmend.spares import lets_none, spared
from samples import Odd, drawn_broken, of_any_kind

DIAGONAL = [(0, 0), (1, 1), (2, 2), (3, 3)]
SQUARE = [(0, 0), (0, 1), (1, 0), (1, 1)]
# Row 0 and line 0 have to be spared, and then (2, 2) is left.
CROSS = [(0, 0), (0, 1), (0, 2), (1, 0), (2, 0), (2, 2)]


def can_be_spared(broken, rows, lines):
    """By trying all rows: the lines of what is left are all needed."""
    found = sorted({row for row, line in broken})
    return any(len({line for row, line in broken if row not in chosen}) <= lines
               for count in range(min(rows, len(found)) + 1) for chosen in itertools.combinations(found, count))


def lists_in(tree):
    if tree is None:
        return []
    return [tree[1]] if tree[0] == "cells" else lists_in(tree[2]) + lists_in(tree[3])


class Spared(unittest.TestCase):
    def is_right(self, broken, rows, lines):
        told = spared(broken, rows, lines)
        self.assertIs(tuple, told.__class__)
        if can_be_spared(broken, rows, lines):
            self.assertEqual(("spares", 3), (told[0], len(told)))
            for each, most in zip(told[1:], (rows, lines)):
                self.assertIs(list, each.__class__)
                self.assertEqual(sorted(set(each)), each)
                self.assertLessEqual(len(each), most)
            self.assertTrue(all(row in told[1] or line in told[2] for row, line in broken))
            return True
        self.assertEqual(("none", 2), (told[0], len(told)))
        self.assertIs(True, lets_none(broken, rows, lines, told[1]))
        self.assertTrue(self.plainly_lets(broken, rows, lines, told[1]))
        return False

    def plainly_lets(self, broken, rows, lines, tree):
        word, first, *rest = tree
        if word == "cells":
            self.assertLessEqual(set(first), set(broken))
            unlike = [len({cell[place] for cell in first}) for place, most in enumerate((rows, lines)) if most > 0]
            return not rest and len(first) > rows + lines and all(len(first) == count for count in unlike)
        self.assertEqual(("split", 2), (word, len(rest)))
        self.assertIn(first, broken)
        less = [[cell for cell in broken if cell[place] != first[place]] for place in (0, 1)]
        one = rest[0] is None if rows == 0 else self.plainly_lets(less[0], rows - 1, lines, rest[0])
        return one and (rest[1] is None if lines == 0 else self.plainly_lets(less[1], rows, lines - 1, rest[1]))

    def test_nothing_broken(self):
        for rows, lines in itertools.product(range(7), repeat=2):
            self.assertEqual(("spares", [], []), spared([], rows, lines))

    def test_both_0(self):
        self.assertEqual(("spares", [], []), spared([], 0, 0))
        for broken in ([(0, 0)], [(11, 3)], SQUARE, CROSS, [(5, line) for line in range(12)]):
            self.assertFalse(self.is_right(broken, 0, 0))

    def test_one_broken_cell(self):
        self.assertEqual(("spares", [4], []), spared([(4, 7)], 1, 0))
        self.assertEqual(("spares", [], [7]), spared([(4, 7)], 0, 1))
        for rows, lines in itertools.product(range(7), repeat=2):
            self.assertEqual(rows + lines > 0, self.is_right([(4, 7)], rows, lines))

    def test_rows_0(self):
        broken = [(row, line) for row in (1, 5, 9) for line in (2, 4)]
        self.assertEqual(("spares", [], [2, 4]), spared(broken, 0, 2))
        for lines in range(7):
            self.assertEqual(lines >= 2, self.is_right(broken, 0, lines))

    def test_lines_0(self):
        broken = [(row, line) for row in (1, 5, 9) for line in (2, 4)]
        self.assertEqual(("spares", [1, 5, 9], []), spared(broken, 3, 0))
        for rows in range(7):
            self.assertEqual(rows >= 3, self.is_right(broken, rows, 0))

    def test_known_ones(self):
        self.assertTrue(self.is_right(DIAGONAL, 2, 2))
        self.assertFalse(self.is_right(DIAGONAL, 1, 2))
        self.assertFalse(self.is_right(SQUARE, 1, 1))
        self.assertTrue(self.is_right(SQUARE, 2, 0))
        self.assertTrue(self.is_right(SQUARE, 0, 2))
        self.assertFalse(self.is_right(CROSS, 1, 1))
        self.assertTrue(self.is_right(CROSS, 2, 1))
        self.assertTrue(self.is_right(CROSS, 1, 2))
        self.assertFalse(self.is_right(CROSS, 0, 2))

    def test_the_fewest_of_the_wrong_sort(self):
        # One row would do, but only lines are there; five rows, but only four and lines enough for none.
        self.assertFalse(self.is_right([(3, line) for line in range(12)], 0, 6))
        self.assertTrue(self.is_right([(3, line) for line in range(6)], 0, 6))
        block = [(row, line) for row in range(5) for line in range(12)]
        self.assertTrue(self.is_right(block, 5, 0))
        self.assertFalse(self.is_right(block, 4, 6))
        self.assertTrue(self.is_right([(line, row) for row, line in block][:60], 0, 5))
        self.assertFalse(self.is_right(sorted((line, row) for row, line in block), 6, 4))

    def test_all_numbers_of_drawn_ones(self):
        source = random.Random(30)
        seen = {True: 0, False: 0}
        for turn in range(30):
            broken = drawn_broken(source, source.randrange(1, 30))
            for rows, lines in itertools.product(range(7), repeat=2):
                seen[self.is_right(broken, rows, lines)] += 1
        self.assertGreater(min(seen.values()), 300)

    def test_all_of_three_rows_and_three_lines(self):
        cells = [(row, line) for row in (0, 5, 11) for line in (1, 2, 10)]
        for count in range(10):
            for number, chosen in enumerate(itertools.combinations(cells, count)):
                for rows, lines in itertools.product(range(3), repeat=2):
                    self.is_right(list(chosen), rows, lines)

    def test_sixty_cells_and_six_rows_and_lines(self):
        source = random.Random(31)
        seen = {True: 0, False: 0}
        for turn in range(60):
            broken = drawn_broken(source, 60)
            for rows, lines in ((6, 6), (5, 6), (6, 5)):
                seen[self.is_right(broken, rows, lines)] += 1
        self.assertGreater(seen[False], 50)

    def test_sixty_cells_that_are_just_spared(self):
        source = random.Random(32)
        for turn in range(40):
            rows, lines = source.sample(range(12), 6), source.sample(range(12), 6)
            cells = [(row, line) for row in range(12) for line in range(12) if row in rows or line in lines]
            broken = sorted(source.sample(cells, 60))
            self.assertTrue(self.is_right(broken, 6, 6))
            left = [(row, line) for row in range(12) for line in range(12) if row not in rows and line not in lines]
            self.is_right(sorted(broken[:59] + [source.choice(left)]), 6, 6)

    def test_somewhat_beyond(self):
        self.is_right([(row, line) for row in range(12) for line in range(12)], 6, 6)
        self.assertTrue(self.is_right([(row, line) for row in range(12) for line in range(12)], 12, 7))
        self.assertFalse(self.is_right([(k, 13 - k) for k in range(14)], 6, 7))


class Trees(unittest.TestCase):
    def lets(self, broken, rows, lines, tree):
        self.assertIs(True, lets_none(broken, rows, lines, tree), tree)

    def refuses(self, broken, rows, lines, thing):
        self.assertIs(False, lets_none(broken, rows, lines, thing))

    def test_good_ones_of_cells(self):
        self.lets(DIAGONAL, 1, 2, ("cells", DIAGONAL))
        self.lets(DIAGONAL, 2, 1, ("cells", DIAGONAL[::-1]))
        self.lets(DIAGONAL, 1, 1, ("cells", [(2, 2), (0, 0), (3, 3)]))
        self.lets(SQUARE, 0, 1, ("cells", [(0, 0), (0, 1)]))
        self.lets(SQUARE, 1, 0, ("cells", [(1, 1), (0, 1)]))
        self.lets(SQUARE, 0, 0, ("cells", [(1, 1)]))

    def test_good_ones_of_splits(self):
        one, other = ("cells", [(1, 0), (1, 1)]), ("cells", [(0, 1), (1, 1)])
        self.lets(SQUARE, 1, 1, ("split", (0, 0), one, other))
        self.lets(SQUARE, 0, 0, ("split", (0, 0), None, None))
        self.lets(SQUARE, 1, 0, ("split", (0, 0), ("cells", [(1, 0)]), None))
        self.lets(SQUARE, 1, 0, ("split", (0, 0), ("split", (1, 0), None, None), None))
        self.lets(SQUARE, 0, 1, ("split", (0, 0), None, ("cells", [(0, 1), (1, 1)])))
        self.lets(CROSS, 1, 1, ("split", (0, 0), ("cells", [(1, 0), (2, 2)]),
                                ("split", (0, 1), ("cells", [(2, 2)]), None)))

    def test_too_few_cells(self):
        for rows, lines in itertools.product(range(5), repeat=2):
            told = lets_none(DIAGONAL, rows, lines, ("cells", DIAGONAL))
            self.assertIs(rows + lines < 4, told)
            self.assertIs(False, lets_none(DIAGONAL, rows, lines, ("cells", [])))
        self.refuses(DIAGONAL, 1, 1, ("cells", [(0, 0), (1, 1)]))

    def test_a_cell_that_is_not_broken(self):
        self.refuses(DIAGONAL, 1, 1, ("cells", [(0, 0), (1, 1), (2, 3)]))
        self.refuses(DIAGONAL, 1, 1, ("cells", [(0, 0), (1, 1), (2, 2), (3, 4)]))
        self.refuses(DIAGONAL, 0, 0, ("cells", [(0, 1)]))
        # It was broken, but lies in what was spared.
        self.refuses(SQUARE, 1, 1, ("split", (0, 0), ("cells", [(0, 0), (1, 1)]), ("cells", [(0, 1), (1, 1)])))
        self.refuses(SQUARE, 1, 1, ("split", (0, 0), ("cells", [(1, 0), (1, 1)]), ("cells", [(0, 1), (1, 0)])))

    def test_two_in_one_row(self):
        broken = [(0, 0), (0, 1), (1, 2), (2, 3)]
        self.refuses(broken, 1, 1, ("cells", [(0, 0), (0, 1), (1, 2)]))
        self.refuses(broken, 1, 0, ("cells", [(0, 0), (0, 1)]))
        self.refuses(broken, 2, 1, ("cells", broken))
        self.lets(broken, 0, 3, ("cells", broken))
        self.lets(broken, 0, 1, ("cells", [(0, 0), (0, 1)]))
        self.lets(broken, 0, 0, ("cells", [(0, 0), (0, 1)]))

    def test_two_in_one_line(self):
        broken = [(0, 0), (1, 0), (2, 1), (3, 2)]
        self.refuses(broken, 1, 1, ("cells", [(0, 0), (1, 0), (2, 1)]))
        self.refuses(broken, 0, 1, ("cells", [(0, 0), (1, 0)]))
        self.refuses(broken, 1, 2, ("cells", broken))
        self.lets(broken, 3, 0, ("cells", broken))
        self.lets(broken, 1, 0, ("cells", [(0, 0), (1, 0)]))
        self.lets(broken, 0, 0, ("cells", [(0, 0), (1, 0)]))

    def test_the_same_cell_twice(self):
        self.lets(DIAGONAL, 0, 0, ("cells", [(0, 0), (0, 0)]))
        self.lets(DIAGONAL, 0, 0, ("cells", [(0, 0)] * 9))
        self.refuses(DIAGONAL, 1, 0, ("cells", [(0, 0), (0, 0)]))
        self.refuses(DIAGONAL, 0, 1, ("cells", [(0, 0), (0, 0)]))
        self.refuses(DIAGONAL, 1, 1, ("cells", [(0, 0), (0, 0), (1, 1)]))
        self.refuses(DIAGONAL, 0, 1, ("cells", [(0, 0), (0, 0), (1, 1)]))

    def test_a_split_at_a_cell_that_is_not_broken(self):
        self.refuses(SQUARE, 0, 0, ("split", (2, 2), None, None))
        self.refuses([], 0, 0, ("split", (0, 0), None, None))
        self.refuses(DIAGONAL, 1, 1, ("split", (0, 1), ("cells", DIAGONAL[1:]), ("cells", DIAGONAL[2:] + DIAGONAL[:1])))
        self.lets(DIAGONAL, 1, 1, ("split", (0, 0), ("cells", DIAGONAL[1:]), ("cells", DIAGONAL[2:])))
        # Spared already, further up.
        tree = ("split", (0, 0), ("split", (0, 1), None, ("cells", [(1, 0)])), ("cells", [(0, 1), (1, 1)]))
        self.refuses(SQUARE, 1, 1, tree)
        tree = ("split", (0, 0), ("split", (1, 1), None, ("cells", [(1, 0)])), ("cells", [(0, 1), (1, 1)]))
        self.lets(SQUARE, 1, 1, tree)

    def test_none_where_a_tree_is_due(self):
        one, other = ("cells", [(1, 0), (1, 1)]), ("cells", [(0, 1), (1, 1)])
        self.refuses(SQUARE, 1, 1, ("split", (0, 0), None, other))
        self.refuses(SQUARE, 1, 1, ("split", (0, 0), one, None))
        self.refuses(SQUARE, 1, 1, ("split", (0, 0), None, None))
        self.refuses(SQUARE, 1, 0, ("split", (0, 0), None, None))
        self.refuses(SQUARE, 0, 1, ("split", (0, 0), None, None))
        self.refuses(SQUARE, 0, 0, None)

    def test_a_tree_where_none_is_due(self):
        one, other = ("cells", [(1, 0), (1, 1)]), ("cells", [(0, 1), (1, 1)])
        self.refuses(SQUARE, 0, 0, ("split", (0, 0), one, None))
        self.refuses(SQUARE, 0, 0, ("split", (0, 0), None, other))
        self.refuses(SQUARE, 1, 0, ("split", (0, 0), one, other))
        self.refuses(SQUARE, 0, 1, ("split", (0, 0), one, other))
        for thing in (False, 0, "", (), [], {}, Odd()):
            self.refuses(SQUARE, 0, 0, ("split", (0, 0), thing, None))
            self.refuses(SQUARE, 0, 0, ("split", (0, 0), None, thing))

    def test_what_is_left_has_one_row_or_line_less(self):
        # With a row spared there is one row less: so what is told for as many as before is no tree.
        broken = [(0, 0), (1, 1), (2, 2)]
        self.lets(broken, 1, 1, ("split", (0, 0), ("cells", broken[1:]), ("cells", broken[1:])))
        self.refuses(broken, 2, 1, ("split", (0, 0), ("cells", broken[1:]), ("cells", broken[1:])))
        self.refuses(broken, 1, 2, ("split", (0, 0), ("cells", broken[1:]), ("cells", broken[1:])))
        # A row spared, two in a line of what is left; a line spared, two in a row of what is left.
        lines = [(0, 0), (1, 1), (2, 1)]
        self.lets(lines, 2, 0, ("split", (0, 0), ("cells", [(1, 1), (2, 1)]), None))
        self.refuses(lines, 1, 1, ("split", (0, 0), ("cells", [(1, 1), (2, 1)]), ("cells", [(1, 1), (2, 1)])))

    def test_a_list_for_a_tuple_and_a_tuple_for_a_list(self):
        one, other = ("cells", [(1, 0), (1, 1)]), ("cells", [(0, 1), (1, 1)])
        self.refuses(SQUARE, 1, 1, ["split", (0, 0), one, other])
        self.refuses(SQUARE, 1, 1, ("split", [0, 0], one, other))
        self.refuses(SQUARE, 1, 1, ("split", (0, 0), list(one), other))
        self.refuses(SQUARE, 1, 1, ("split", (0, 0), one, list(other)))
        self.refuses(DIAGONAL, 1, 1, ["cells", DIAGONAL])
        self.refuses(DIAGONAL, 1, 1, ("cells", tuple(DIAGONAL)))
        self.refuses(DIAGONAL, 1, 1, ("cells", [list(cell) for cell in DIAGONAL]))
        self.refuses(DIAGONAL, 1, 1, ("cells", {cell: True for cell in DIAGONAL}))
        self.refuses(DIAGONAL, 1, 1, ("cells", set(DIAGONAL)))

    def test_other_words_longer_and_shorter(self):
        one, other = ("cells", [(1, 0), (1, 1)]), ("cells", [(0, 1), (1, 1)])
        for word in ("", "cell", "Cells", "split", "spares", "none", None, 0, True, ("cells",), ["cells"], Odd(), b"cells"):
            self.refuses(DIAGONAL, 1, 1, (word, list(DIAGONAL)))
        for word in ("", "splits", "cells", "none", None, 0, ("split",), Odd()):
            self.refuses(SQUARE, 1, 1, (word, (0, 0), one, other))
        self.refuses(DIAGONAL, 1, 1, ("cells",))
        self.refuses(DIAGONAL, 1, 1, ("cells", DIAGONAL, None))
        self.refuses(DIAGONAL, 1, 1, ("cells", DIAGONAL, None, None))
        self.refuses(SQUARE, 1, 1, ("split", (0, 0), one))
        self.refuses(SQUARE, 1, 1, ("split", (0, 0)))
        self.refuses(SQUARE, 1, 1, ("split",))
        self.refuses(SQUARE, 1, 1, ("split", (0, 0), one, other, None))
        self.refuses(SQUARE, 1, 1, ("none", ("split", (0, 0), one, other)))

    def test_things_in_the_place_of_a_cell(self):
        for thing in of_any_kind() + [(0,), (0, 0, 0), (False, 0), (0, False), (None, 0), ("0", 0), [0, 0], 0,
                                      (Odd(), 0), (0, Odd()), ((0, 0), 0), (True, True), (1, True)]:
            if thing != (0, 1) or not isinstance(thing, tuple):
                self.refuses(SQUARE, 0, 0, ("split", thing, None, None))
                self.refuses(SQUARE, 0, 0, ("cells", [thing]))
                self.refuses(SQUARE, 0, 0, ("cells", [(0, 0), thing]))
                self.refuses(SQUARE, 0, 0, ("cells", thing))

    def test_things_of_any_kind(self):
        for thing in of_any_kind() + [[], (None,), (None, None), "cells", ["cells"], {"cells": DIAGONAL}, 7,
                                      [("cells", DIAGONAL)], (("cells", DIAGONAL),)]:
            for broken in ([], DIAGONAL, SQUARE):
                for rows, lines in ((0, 0), (1, 1), (0, 1), (6, 6)):
                    self.refuses(broken, rows, lines, thing)
                    if thing is not None:
                        self.refuses(broken, rows, lines, ("split", (0, 0), thing, thing))

    def test_nothing_broken_has_no_tree(self):
        for thing in (("cells", []), ("cells", [(0, 0)]), ("split", (0, 0), None, None), None, ()):
            for rows, lines in itertools.product((0, 1, 6), repeat=2):
                self.refuses([], rows, lines, thing)

    def test_very_deep_trees(self):
        tree = None
        for turn in range(200000):
            tree = ("split", (0, 0), tree, tree)
        listed = []
        for turn in range(200000):
            listed = [listed]
        broken = [(row, line) for row in range(7) for line in range(7)]
        for rows, lines in ((0, 0), (6, 6), (6, 0), (0, 6), (1, 2)):
            self.refuses(broken, rows, lines, tree)
            self.refuses(broken, rows, lines, ("cells", listed))
            self.refuses(broken, rows, lines, ("split", (0, 0), listed, listed))
        one = None
        for turn in range(200000):
            one = ("split", (turn % 7, 0), one, None)
        self.refuses(broken, 6, 0, one)

    def test_a_tree_of_all_depths(self):
        # Down to the last row and line, with every cell that is left but in one way: the greatest that a tree can be.
        def tree_for(broken, rows, lines):
            cell = broken[0]
            less = [[other for other in broken if other[place] != cell[place]] for place in (0, 1)]
            return ("split", cell, tree_for(less[0], rows - 1, lines) if rows else None,
                    tree_for(less[1], rows, lines - 1) if lines else None)

        broken = [(k, k) for k in range(12)] + [(k, (k + 1) % 12) for k in range(12)]
        whole = [(row, line) for row in range(8) for line in range(8)][:60]
        for cells, rows, lines in ((sorted(broken), 5, 5), (whole, 6, 6), (whole, 2, 5)):
            tree = tree_for(cells, rows, lines)
            self.lets(cells, rows, lines, tree)
            self.refuses(cells, rows, lines, tree[:3] + (None,))
            self.refuses(cells, rows + 1, lines, tree)
            self.refuses(cells, rows, lines + 1, tree)

    def test_whatever_is_let_by_there_is_none(self):
        # All small trees, good and bad: where one is let by, no such rows and lines cover.
        source = random.Random(33)
        seen = {True: 0, False: 0}
        for turn in range(4000):
            broken = drawn_broken(source, source.randrange(1, 7), 3)
            rows, lines = source.randrange(3), source.randrange(3)
            told = lets_none(broken, rows, lines, self.drawn_tree(source, broken, rows, lines))
            seen[told] += 1
            if told:
                self.assertFalse(can_be_spared(broken, rows, lines))
        self.assertGreater(min(seen.values()), 200)

    def drawn_tree(self, source, broken, rows, lines):
        if not broken or source.random() < 0.3:
            return ("cells", [source.choice(broken or [(0, 0)]) for k in range(source.randrange(rows + lines + 3))])
        cell = source.choice(broken)
        one, other = None, None
        if rows > 0 or source.random() < 0.1:
            one = self.drawn_tree(source, [each for each in broken if each[0] != cell[0]], max(rows - 1, 0), lines)
        if lines > 0 or source.random() < 0.1:
            other = self.drawn_tree(source, [each for each in broken if each[1] != cell[1]], rows, max(lines - 1, 0))
        return ("split", cell, one, other)


class HandedInAndTold(unittest.TestCase):
    def test_what_is_handed_in_stays_as_it_was(self):
        for broken in (DIAGONAL, SQUARE, CROSS):
            for rows, lines in itertools.product(range(4), repeat=2):
                given, before = list(broken), list(broken)
                told = spared(given, rows, lines)
                self.assertEqual(before, given)
                if told[0] == "none":
                    tree = copy.deepcopy(told[1])
                    lets_none(given, rows, lines, told[1])
                    self.assertEqual((before, tree), (given, told[1]))

    def test_told_lists_may_be_changed(self):
        source = random.Random(34)
        for turn in range(60):
            broken = drawn_broken(source, source.randrange(1, 40))
            for rows, lines in ((6, 6), (3, 3), (0, 4), (4, 0), (0, 0)):
                told = spared(broken, rows, lines)
                before, expected = list(broken), copy.deepcopy(told)
                lists = lists_in(told[1]) if told[0] == "none" else list(told[1:])
                self.assertEqual(len(lists), len({id(each) for each in lists}))
                for each in lists:
                    each.append(None)
                    each.reverse()
                self.assertEqual(before, broken)
                self.assertEqual(expected, spared(broken, rows, lines))

    def test_nothing_of_it_is_kept(self):
        cells = list(DIAGONAL)
        self.assertIs(True, lets_none(DIAGONAL, 1, 2, ("cells", cells)))
        cells.pop()
        self.assertIs(False, lets_none(DIAGONAL, 1, 2, ("cells", cells)))


if __name__ == "__main__":
    unittest.main()
