import itertools
import random
import unittest

from marchmend.covers import fewest
from samples import drawn_broken


def covers(rows, lines, broken):
    return all(row in rows or line in lines for row, line in broken)


def plainly_fewest(broken):
    """How many rows and lines it takes, by trying all rows."""
    rows = sorted({row for row, line in broken})
    return min(count + len({line for row, line in broken if row not in chosen})
               for count in range(len(rows) + 1) for chosen in itertools.combinations(rows, count))


class Fewest(unittest.TestCase):
    def is_right(self, broken):
        told = fewest(broken)
        self.assertEqual((tuple, 3), (told.__class__, len(told)))
        rows, lines, cells = told
        for each in told:
            self.assertIs(list, each.__class__)
            self.assertEqual(sorted(set(each)), each)
        self.assertTrue(covers(rows, lines, broken))
        self.assertLessEqual(set(cells), set(broken))
        for cell in cells:
            self.assertIs(tuple, cell.__class__)
        self.assertEqual(len(cells), len({row for row, line in cells}))
        self.assertEqual(len(cells), len({line for row, line in cells}))
        self.assertEqual(len(rows) + len(lines), len(cells))
        return len(cells)

    def test_none(self):
        self.assertEqual(([], [], []), fewest([]))

    def test_one(self):
        for cell in ((0, 0), (0, 11), (11, 0), (11, 11), (3, 7)):
            self.assertEqual(1, self.is_right([cell]))
            self.assertEqual([cell], fewest([cell])[2])

    def test_whole_rows_and_lines(self):
        row = [(4, line) for line in range(12)]
        line = [(row, 7) for row in range(12)]
        self.assertEqual(1, self.is_right(row))
        self.assertEqual(([4], []), fewest(row)[:2])
        self.assertEqual(1, self.is_right(line))
        self.assertEqual(([], [7]), fewest(line)[:2])
        both = sorted(set(row + line))
        self.assertEqual(2, self.is_right(both))
        self.assertEqual(([4], [7]), fewest(both)[:2])
        for rows, lines in (([0, 11], []), ([2], [3, 4]), ([], [0, 5, 11]), ([1, 2], [10])):
            broken = sorted({(row, line) for row in range(12) for line in range(12) if row in rows or line in lines})
            self.assertEqual((rows, lines), fewest(broken)[:2])
            self.assertEqual(len(rows) + len(lines), self.is_right(broken))

    def test_a_diagonal(self):
        for length in range(1, 13):
            self.assertEqual(length, self.is_right([(k, k) for k in range(length)]))
            self.assertEqual(length, self.is_right([(k, length - 1 - k) for k in range(length)]))

    def test_where_the_first_line_of_each_row_will_not_do(self):
        # Each row in turn has to hand on the line that it has.
        self.assertEqual(4, self.is_right([(0, 0), (0, 1), (1, 0), (1, 2), (2, 0), (2, 3), (3, 0)]))
        self.assertEqual(6, self.is_right(sorted([(k, k) for k in range(5)] + [(k, k + 1) for k in range(5)] + [(5, 0)])))
        stairs = sorted([(k, k) for k in range(12)] + [(k, k + 1) for k in range(11)])
        self.assertEqual(12, self.is_right(stairs))

    def test_blocks(self):
        block = [(row, line) for row in range(5) for line in range(12)]
        self.assertEqual(60, len(block))
        self.assertEqual(5, self.is_right(block))
        self.assertEqual(([0, 1, 2, 3, 4], []), fewest(block)[:2])
        other = [(row, line) for row in range(12) for line in range(7, 12)]
        self.assertEqual(5, self.is_right(other))
        self.assertEqual(([], [7, 8, 9, 10, 11]), fewest(other)[:2])
        self.assertEqual(3, self.is_right([(row, line) for row in (2, 5, 9) for line in (1, 3, 4)]))

    def test_drawn_ones(self):
        source = random.Random(20)
        for turn in range(600):
            self.is_right(drawn_broken(source, source.randrange(61)))

    def test_no_fewer_by_trying_all(self):
        source = random.Random(21)
        for turn in range(60):
            broken = drawn_broken(source, source.randrange(1, 40))
            self.assertEqual(plainly_fewest(broken), self.is_right(broken))

    def test_all_of_three_rows_and_three_lines(self):
        cells = [(row, line) for row in (0, 5, 11) for line in (1, 2, 10)]
        for count in range(10):
            for chosen in itertools.combinations(cells, count):
                self.assertEqual(plainly_fewest(list(chosen)), self.is_right(list(chosen)))

    def test_sixty_cells(self):
        source = random.Random(22)
        for turn in range(30):
            broken = drawn_broken(source, 60)
            self.assertEqual(60, len(broken))
            self.is_right(broken)

    def test_somewhat_beyond(self):
        self.assertEqual(12, self.is_right([(row, line) for row in range(12) for line in range(12)]))
        self.assertEqual(14, self.is_right([(k, 13 - k) for k in range(14)]))

    def test_what_is_handed_in_and_told(self):
        broken = [(0, 1), (0, 2), (3, 1), (4, 4)]
        told = fewest(broken)
        self.assertEqual([(0, 1), (0, 2), (3, 1), (4, 4)], broken)
        expected = tuple(list(each) for each in told)
        for each in told:
            each.append(5)
            each.reverse()
        self.assertEqual([(0, 1), (0, 2), (3, 1), (4, 4)], broken)
        self.assertEqual(expected, fewest(broken))
        told = fewest(broken)
        broken.clear()
        self.assertEqual(expected, told)


if __name__ == "__main__":
    unittest.main()
