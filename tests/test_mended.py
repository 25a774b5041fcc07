import copy
import itertools
import random
import unittest

from marchmend.covers import fewest
from marchmend.errors import MarchError, NoAddress, NoBit, NoHarms, NoMemory, NoOrders, NoSpares, NoTest
from marchmend.harms import cells_of, placed
from marchmend.mended import Mended, broken_of
from marchmend.memory import Memory
from marchmend.running import run_on
from marchmend.spares import spared
from marchmend.texts import read
from plain import Plain, plain_reads
from samples import Case, Odd, all_on, eight_by_six, march_c, of_any_kind, one_of_each_sort

NO_LISTS = [thing for thing in of_any_kind() if not isinstance(thing, list)]


class PlainMended:
    """The same told once more: two memories, of which one is sound, and for each address which of them it is in."""

    def __init__(self, rows, lines, harms, contents, spare_rows, spare_lines):
        size = rows * lines
        self.two = Plain(size, harms, contents), Plain(size, [], contents)
        self.which = [int(row in spare_rows or line in spare_lines) for row in range(rows) for line in range(lines)]

    def read(self, address):
        return self.two[self.which[address]].read(address)

    def write(self, address, bit):
        self.two[self.which[address]].write(address, bit)

    def holds(self):
        return [self.two[which].holds()[address] for address, which in enumerate(self.which)]


class Broken(Case):
    def test_each_sort(self):
        expected = {"stuck": (1, 2), "slow": (1, 2), "forgets": (1, 2), "misreads": (1, 2), "nowhere": (1, 2),
                    "other": (1, 2), "both": (1, 2), "turns": (4, 1), "sets": (4, 1), "keeps": (4, 1)}
        for harm in one_of_each_sort():
            there = placed([harm], [6, 17][:len(cells_of([harm]))])
            self.assertEqual([expected[harm[0]]], broken_of(there, 4), there)

    def test_by_hand(self):
        self.assertEqual([(0, 6)], broken_of([("stuck", 6, 1)], 8))
        self.assertEqual([(6, 0)], broken_of([("stuck", 6, 1)], 1))
        self.assertEqual([(2, 1)], broken_of([("turns", 6, 17, 1)], 8))
        self.assertEqual([(0, 6)], broken_of([("turns", 17, 6, 1)], 8))
        self.assertEqual([(2, 1)], broken_of([("other", 17, 6)], 8))
        self.assertEqual([(63, 0)], broken_of([("slow", 63, 0)], 1))
        self.assertEqual([(7, 7)], broken_of([("slow", 63, 0)], 8))
        self.assertEqual([(21, 0)], broken_of([("both", 63, 0, "or")], 3))

    def test_several(self):
        self.assertEqual([], broken_of([], 4))
        self.assertEqual([(0, 3), (2, 1)], broken_of([("stuck", 9, 1), ("slow", 3, 1)], 4))
        self.assertEqual([(0, 0), (0, 1), (0, 2)],
                         broken_of([("keeps", 0, 2, 1, 1), ("sets", 2, 1, 0, 0), ("other", 0, 1)], 4))
        # As numbers they rise, 8 behind 7; as rows and lines they do so too.
        self.assertEqual([(1, 3), (2, 0), (12, 1)], broken_of([("slow", 49, 1), ("slow", 8, 1), ("slow", 7, 0)], 4))

    def test_the_same_twice(self):
        self.assertEqual([(1, 0)], broken_of([("stuck", 4, 1), ("slow", 4, 1), ("turns", 9, 4, 0)], 4))
        self.assertEqual([(1, 0)], broken_of([("stuck", 4, 1)] * 3, 4))
        self.assertEqual([(0, 1), (0, 2)], broken_of([("turns", 2, 1, 0), ("other", 2, 1), ("slow", 2, 1)], 8))

    def test_they_are_broken_cells(self):
        for harm in all_on([0, 5, 63]):
            for lines in range(1, 9):
                (row, line), = broken_of([harm], lines)
                number = harm[2] if harm[0] in ("turns", "sets", "keeps") else harm[1]
                self.assertEqual((number, True), (row * lines + line, line < lines))
                self.assertIs(tuple, broken_of([harm], lines)[0].__class__)

    def test_no_harms(self):
        for thing in NO_LISTS:
            self.assertIsNone(self.refused(NoHarms, broken_of, thing, 4).number)
            self.assertEqual(0, self.refused(NoHarms, broken_of, [thing], 4).number)
        self.assertEqual(1, self.refused(NoHarms, broken_of, [("slow", 0, 1), ("slow", 64, 1)], 4).number)

    def test_handed_in_and_told(self):
        harms = [("slow", 3, 1), ("slow", 0, 1)]
        told = broken_of(harms, 2)
        self.assertEqual([("slow", 3, 1), ("slow", 0, 1)], harms)
        told.clear()
        self.assertEqual([(0, 0), (1, 1)], broken_of(harms, 2))


class Laid(unittest.TestCase):
    def test_a_spared_row(self):
        memory = Mended(2, 2, [("stuck", 0, 1), ("stuck", 3, 1)], [0, 0, 0, 0], [0], [])
        self.assertEqual([0, 0, 0, 1], memory.holds())
        self.assertEqual([0, 0, 0, 1], [memory.read(address) for address in range(4)])
        for address in range(4):
            self.assertIsNone(memory.write(address, 1))
        self.assertEqual([1, 1, 1, 1], memory.holds())
        for address in range(4):
            memory.write(address, 0)
        self.assertEqual([0, 0, 0, 1], memory.holds())

    def test_a_spared_line(self):
        memory = Mended(2, 3, [("nowhere", 1, 1), ("nowhere", 4, 0), ("nowhere", 5, 1)], [0] * 6, [], [1])
        self.assertEqual([0, 0, 0, 0, 0, 1], [memory.read(address) for address in range(6)])
        memory.write(1, 1)
        memory.write(4, 1)
        memory.write(5, 1)
        self.assertEqual([0, 1, 0, 0, 1, 1], [memory.read(address) for address in range(6)])
        self.assertEqual([0, 1, 0, 0, 1, 0], memory.holds())

    def test_both(self):
        # Of three rows of three only 0, 2, 6 and 8 stay in the harmed memory.
        memory = Mended(3, 3, [("other", 0, 4), ("slow", 8, 1), ("stuck", 4, 1)], [0] * 9, [1], [1])
        self.assertEqual([1, 0, 0, 0, 0, 0, 0, 0, 0], [memory.read(address) for address in range(9)])
        self.assertEqual([0] * 9, memory.holds())
        for address in range(9):
            memory.write(address, 1)
        self.assertEqual([0, 1, 1, 1, 1, 1, 1, 1, 0], memory.holds())
        self.assertEqual([1, 1, 1, 1, 1, 1, 1, 1, 0], [memory.read(address) for address in range(9)])

    def test_where_spare_and_harmed_cell_differ(self):
        # Cell 0 is turned by cell 3, beneath its spare, and shows through address 2, which reaches it.
        memory = Mended(2, 2, [("turns", 3, 0, 1), ("other", 2, 0)], [0, 0, 0, 0], [0], [])
        memory.write(3, 1)
        self.assertEqual([0, 0, 0, 1], memory.holds())
        self.assertEqual([0, 0, 1, 1], [memory.read(address) for address in range(4)])
        memory.write(0, 1)
        memory.write(2, 0)
        self.assertEqual([1, 0, 0, 1], memory.holds())
        self.assertEqual([1, 0, 0, 1], [memory.read(address) for address in range(4)])

    def test_a_spare_cell_is_at_first_as_contents_tell(self):
        memory = Mended(1, 3, [("stuck", 0, 1), ("keeps", 1, 2, 0, 1)], [0, 0, 0], [], [0, 2])
        self.assertEqual([0, 0, 0], memory.holds())
        memory = Mended(1, 3, [("stuck", 0, 1), ("keeps", 1, 2, 0, 1)], [0, 0, 0], [], [])
        self.assertEqual([1, 0, 1], memory.holds())
        memory = Mended(1, 3, [("stuck", 0, 1), ("keeps", 1, 2, 0, 1)], [0, 0, 0], [], [0])
        self.assertEqual([0, 0, 1], memory.holds())

    def test_a_cell_beneath_its_spare_still_acts(self):
        # 0 is spared, so it is never written in the harmed memory, and cell 1 stays sound; address 2 reaches it.
        memory = Mended(3, 1, [("turns", 0, 1, 1), ("both", 2, 0, "or")], [0, 0, 0], [0], [])
        memory.write(0, 1)
        self.assertEqual([1, 0, 0], memory.holds())
        memory.write(2, 1)
        self.assertEqual([1, 1, 1], memory.holds())

    def test_none_spared_and_all_spared(self):
        for harm in one_of_each_sort():
            for contents in ([0, 0, 0, 0], [1, 1, 1, 1], [0, 1, 1, 0]):
                plain = Memory(4, [harm], contents)
                sound = Memory(4, [], contents)
                for spares, other in ((([], []), plain), (([0, 1], []), sound), (([], [0, 1]), sound)):
                    memory = Mended(2, 2, [harm], contents, *spares)
                    other = copy.deepcopy(other)
                    for address, bit in ((0, 1), (1, 1), (0, 0), (3, 1), (1, 0), (0, 1)):
                        memory.write(address, bit)
                        other.write(address, bit)
                        self.assertEqual(other.holds(), memory.holds())
                        self.assertEqual([other.read(k) for k in range(4)], [memory.read(k) for k in range(4)])

    def test_size(self):
        for rows, lines in itertools.product(range(1, 9), repeat=2):
            memory = Mended(rows, lines, [], [0] * (rows * lines), [rows - 1], [lines - 1])
            self.assertEqual(rows * lines, memory.size())
            self.assertEqual([0] * (rows * lines), memory.holds())

    def test_against_another(self):
        source = random.Random(40)
        for turn in range(300):
            rows, lines = source.randrange(1, 9), source.randrange(1, 9)
            size = rows * lines
            cells = sorted(source.sample(range(size), min(size, 3)))
            harms = source.sample(all_on(cells), 3)
            contents = [source.randrange(2) for k in range(size)]
            spares = [sorted(source.sample(range(most), source.randrange(min(most, 2) + 1))) for most in (rows, lines)]
            memory, other = (made(rows, lines, harms, contents, *spares) for made in (Mended, PlainMended))
            for deed in range(40):
                address = source.choice(cells + [source.randrange(size)])
                if source.randrange(2):
                    bit = source.randrange(2)
                    self.assertIsNone(memory.write(address, bit))
                    other.write(address, bit)
                else:
                    self.assertEqual(other.read(address), memory.read(address))
                self.assertEqual(other.holds(), memory.holds())


class Sound(unittest.TestCase):
    """Where all broken cells are covered it reads as a sound one does."""

    def reads_as_sound(self, source, rows, lines, harms, spare_rows, spare_lines):
        size = rows * lines
        contents = [source.randrange(2) for k in range(size)]
        memory, sound = Mended(rows, lines, harms, contents, spare_rows, spare_lines), Memory(size, [], contents)
        near = sorted({part for harm in harms for part in harm[1:3] if isinstance(part, int) and part < size})
        for deed in range(60):
            address = source.choice(near) if source.random() < 0.8 else source.randrange(size)
            if source.randrange(2):
                bit = source.randrange(2)
                memory.write(address, bit)
                sound.write(address, bit)
            else:
                self.assertEqual(sound.read(address), memory.read(address), (harms, spare_rows, spare_lines))
        self.assertEqual([sound.read(k) for k in range(size)], [memory.read(k) for k in range(size)])

    def test_each_harm_alone(self):
        source = random.Random(41)
        for harm in all_on([1, 4, 6]):
            (row, line), = broken_of([harm], 3)
            self.reads_as_sound(source, 3, 3, [harm], [row], [])
            self.reads_as_sound(source, 3, 3, [harm], [], [line])

    def test_several_by_the_fewest_and_by_spares(self):
        source = random.Random(42)
        for turn in range(400):
            rows, lines = source.randrange(1, 9), source.randrange(1, 9)
            cells = sorted(source.sample(range(rows * lines), min(rows * lines, 3)))
            harms = source.sample(all_on(cells), source.randrange(1, 4))
            broken = broken_of(harms, lines)
            spare_rows, spare_lines, shown = fewest(broken)
            self.reads_as_sound(source, rows, lines, harms, spare_rows, spare_lines)
            told = spared(broken, source.randrange(4), source.randrange(4))
            if told[0] == "spares":
                self.reads_as_sound(source, rows, lines, harms, told[1], told[2])

    def test_one_that_is_not_covered_need_not(self):
        memory = Mended(2, 2, [("stuck", 0, 1), ("stuck", 3, 1)], [0] * 4, [0], [])
        self.assertEqual(1, memory.read(3))


class Run(Case):
    def test_run_on(self):
        test = read("any w0; up r0 w1; down r1")
        orders = ["up", "up", "down"]
        harms = [("turns", 0, 1, 1)]
        self.assertEqual([0, 1, 1, 1], run_on(test, Mended(1, 2, harms, [0, 0], [], []), orders))
        self.assertEqual([0, 0, 1, 1], run_on(test, Mended(1, 2, harms, [0, 0], [], [1]), orders))
        self.assertEqual([0, 0, 1, 1], run_on(test, Mended(2, 1, harms, [1, 0], [1], []), orders))
        self.assertEqual([0, 1, 1, 1], run_on(test, Mended(2, 1, harms, [1, 0], [], []), orders))

    def test_it_holds_what_the_run_left(self):
        memory = Mended(2, 2, [("stuck", 3, 0), ("stuck", 0, 1)], [0, 1, 0, 1], [1], [])
        self.assertEqual([], run_on(read("any w1; up w0 w1"), memory, ["down", "up"]))
        self.assertEqual([1, 1, 1, 1], memory.holds())
        self.assertEqual([0, 0, 0, 1], run_on(read("up w0; down r0"), memory, ["up", "down"]))

    def test_covered_ones_read_as_sound_ones(self):
        for harm in all_on([0, 3]):
            contents = [0, 1, 1, 0, 1, 0]
            (row, line), = broken_of([harm], 2)
            for test in (march_c(), eight_by_six()):
                orders = ["up" if order == "any" else order for order, steps in test]
                expected = [bit for element, address, step, bit in plain_reads(test, 6, [], contents, orders)]
                for spares in (([row], []), ([], [line])):
                    self.assertEqual(expected, run_on(test, Mended(3, 2, [harm], contents, *spares), orders))

    def test_refused(self):
        memory = Mended(1, 2, [], [0, 1], [0], [])
        self.refused(NoTest, run_on, [("up", [("w", 1)]), None], memory, ["up", "up"])
        self.refused(NoOrders, run_on, read("any w1; up w1"), memory, ["up", "down"])
        self.assertEqual([0, 1], memory.holds())


GOOD = (2, 3, [("slow", 4, 1)], [0, 1, 0, 1, 0, 1], [1], [0, 2])


class Refusals(Case):
    def with_others(self, changes):
        given = list(copy.deepcopy(GOOD))
        for place, thing in changes.items():
            given[place] = thing
        return given

    def test_a_good_one(self):
        self.assertEqual(GOOD[3], Mended(*GOOD).holds())

    def test_harms_come_first(self):
        for thing in NO_LISTS + [[("slow", 0, 1)] * 4]:
            self.assertIsNone(self.refused(NoHarms, Mended, *self.with_others({2: thing})).number)
            self.assertIsNone(self.refused(NoHarms, Mended, 0, None, thing, None, None, None).number)
        for thing in of_any_kind():
            self.assertEqual(1, self.refused(NoHarms, Mended, 0, 9, [("slow", 0, 1), thing], [], 5, 5).number)
        harms = [("turns", 0, 1, 1), ("turns", 2, 3, 1)]
        self.assertEqual(1, self.refused(NoHarms, Mended, *self.with_others({0: 9, 2: harms})).number)

    def test_then_rows_and_lines(self):
        things = of_any_kind() + [0, 9, 64, -1, 10 ** 59, True, False, "2", [2], (2,), None, [], Odd()]
        for thing in things:
            for rest in ({}, {3: None}, {4: None, 5: [7]}, {2: [("slow", 60, 1)]}):
                self.refused(NoMemory, Mended, *self.with_others({**rest, 0: thing}))
                self.refused(NoMemory, Mended, *self.with_others({**rest, 1: thing}))
        # Their product would be a size, but they are no such numbers.
        self.refused(NoMemory, Mended, 9, 1, [], [0] * 9, [], [])
        self.refused(NoMemory, Mended, 1, 9, [], [0] * 9, [], [])
        self.refused(NoMemory, Mended, 16, 4, [], [0] * 64, [], [])
        self.refused(NoMemory, Mended, True, 3, [], [0] * 3, [], [])
        self.refused(NoMemory, Mended, 3, True, [], [0] * 3, [], [])
        self.refused(NoMemory, Mended, -2, -2, [], [0] * 4, [], [])
        self.assertEqual(64, Mended(8, 8, [], [0] * 64, [], []).size())
        self.assertEqual(1, Mended(1, 1, [], [0], [], []).size())

    def test_then_a_cell_beyond_and_contents(self):
        for rest in ({}, {4: None}, {5: [3]}):
            self.refused(NoMemory, Mended, *self.with_others({**rest, 2: [("slow", 6, 1)]}))
            self.refused(NoMemory, Mended, *self.with_others({**rest, 2: [("turns", 0, 63, 1)]}))
            for thing in of_any_kind() + [[], [0] * 5, [0] * 7, (0,) * 6, [0, 0, 0, 0, 0, 2], [0, 0, 0, 0, 0, True],
                                          [0, 0, 0, 0, 0, None], "000000", [0, 0, 0, 0, 0, "0"], [Odd()] * 6]:
                self.refused(NoMemory, Mended, *self.with_others({**rest, 3: thing}))

    def test_then_spares(self):
        for place, most in ((4, 2), (5, 3)):
            for thing in of_any_kind() + [(), (0,), [1, 0], [0, 0], [1, 1], [most], [0, most], [-1], [-1, 0], [True],
                                          [False], [0, True], [None], ["0"], [(0,)], [[0]], [Odd()], {0: 0}, {0}, "0",
                                          0, 1, [0, 10 ** 59], [most - 1, 0] if most > 1 else [0, 0]]:
                self.refused(NoSpares, Mended, *self.with_others({place: thing}))
        self.refused(NoSpares, Mended, *self.with_others({4: [0, 1, 2]}))
        self.refused(NoSpares, Mended, *self.with_others({5: [0, 2, 1]}))
        for spares in (([], []), ([0], []), ([0, 1], [0, 1, 2]), ([1], [2])):
            self.assertEqual(6, Mended(*self.with_others({4: spares[0], 5: spares[1]})).size())

    def test_no_address_and_no_bit(self):
        memory = Mended(*GOOD)
        wrong = [thing for thing in of_any_kind() if thing not in (True, False) or isinstance(thing, bool)]
        for thing in wrong + [-1, 6, 7, 64, True, False, "0", None, [0], (0,), Odd()]:
            self.refused(NoAddress, memory.read, thing)
            for bit in (0, 1, 2, None, True):
                self.refused(NoAddress, memory.write, thing, bit)
        for address in range(6):
            for thing in of_any_kind() + [2, -1, True, False, "0", None, [0], (1,), Odd()]:
                self.refused(NoBit, memory.write, address, thing)
        self.assertEqual(GOOD[3], memory.holds())

    def test_what_is_refused_changes_nothing(self):
        memory = Mended(*copy.deepcopy(GOOD))
        memory.write(0, 1)
        memory.write(1, 0)
        before = memory.holds()
        for asker, given in ((memory.read, (6,)), (memory.write, (6, 1)), (memory.write, (0, 2)), (memory.write, (1, None)),
                             (memory.read, (None,)), (memory.write, (-1, 0))):
            with self.assertRaises(MarchError):
                asker(*given)
            self.assertEqual(before, memory.holds())
        for changes in ({2: [None]}, {0: 9}, {3: [0]}, {4: [5]}, {5: [2, 0]}):
            given = self.with_others(changes)
            kept = copy.deepcopy(given)
            with self.assertRaises(MarchError):
                Mended(*given)
            self.assertEqual(kept, given)


class HandedInAndTold(unittest.TestCase):
    def test_what_is_handed_in_stays_as_it_was(self):
        given = copy.deepcopy(GOOD)
        memory = Mended(*given)
        for address in range(6):
            memory.write(address, 1)
            memory.write(address, 0)
            memory.read(address)
        self.assertEqual(GOOD, given)

    def test_it_may_be_changed_behind_the_making(self):
        given = copy.deepcopy(GOOD)
        memory, other = Mended(*given), Mended(*GOOD)
        for each in given[2:]:
            each.clear()
        for address, bit in ((4, 1), (0, 1), (1, 1), (1, 0), (5, 0), (4, 1)):
            memory.write(address, bit)
            other.write(address, bit)
            self.assertEqual(other.holds(), memory.holds())
            self.assertEqual([other.read(k) for k in range(6)], [memory.read(k) for k in range(6)])

    def test_told_lists_may_be_changed(self):
        memory = Mended(*GOOD)
        told = memory.holds()
        told[0] = 1
        told.clear()
        self.assertEqual(GOOD[3], memory.holds())

    def test_two_stay_apart(self):
        one, other = Mended(*GOOD), Mended(*GOOD)
        for address in range(6):
            one.write(address, 1 - GOOD[3][address])
        self.assertEqual(GOOD[3], other.holds())


if __name__ == "__main__":
    unittest.main()
