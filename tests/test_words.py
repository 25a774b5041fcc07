import copy
import itertools
import random
import unittest

from marchmend.errors import NoHarms, NoMemory, NoOrders, NoTest, NotSure
from marchmend.harms import cells_of, placed
from marchmend.texts import read
from marchmend.words import are_parted, fewest_backgrounds, words_judged, words_reads
from plain import plain_words_reads, plainly_shows_in_words, word_orders_of
from samples import (Case, Odd, all_on, march_c, of_any_kind, one_of_each_sort, things_that_are_no_test)

TESTS = ["any w0; any r0", "any w0; up r0 w1; down r1 w0", "up w1; down r1 w0 r0; up r0 w1 r1", "any w0 r0 r0; any w1 r1 r1",
         "down w0; up r0 w1; up r1 w0; down r0 w1; any r1"]
# Widths and backgrounds of each.
GROUNDS = [(1, ["0"]), (1, ["1"]), (1, ["0", "1"]), (2, ["00"]), (2, ["01"]), (2, ["00", "01"]), (2, ["10", "11"]),
           (3, ["000"]), (3, ["001", "010"]), (3, ["111", "010"]), (4, ["0011", "0101"]), (4, ["0000", "0110"])]


def gathered(harms, width):
    """The harms moved to the words 0, 1, 2, with the same bits of words, and how many words that takes."""
    cells = cells_of(harms)
    words = sorted({cell // width for cell in cells})
    return placed(harms, [words.index(cell // width) * width + cell % width for cell in cells]), len(words)


def moved(harms, width, words):
    """The harms moved to these words."""
    cells = cells_of(harms)
    had = sorted({cell // width for cell in cells})
    return placed(harms, [words[had.index(cell // width)] * width + cell % width for cell in cells])


def filled(harms, size, bits, rest):
    """Contents with these bits at the harms' cells."""
    contents = [rest[k % len(rest)] for k in range(size)]
    for cell, bit in zip(cells_of(harms), bits):
        contents[cell] = bit
    return contents


def plainly_told(test, width, backgrounds, harms):
    near, words = gathered(harms, width)
    return all(plainly_shows_in_words(test, width, backgrounds, words, near, filled(near, words * width, bits, [0]), orders)
               for bits in itertools.product((0, 1), repeat=len(cells_of(harms)))
               for orders in word_orders_of(test, backgrounds))


class Reads(unittest.TestCase):
    def test_sound_ones(self):
        test = read("up w0; up r0")
        orders = ["up", "up"]
        self.assertEqual([0], words_reads(test, 1, ["0"], 1, [], [1], [orders]))
        self.assertEqual([1], words_reads(test, 1, ["1"], 1, [], [0], [orders]))
        self.assertEqual([0, 1], words_reads(test, 2, ["01"], 1, [], [0, 0], [orders]))
        self.assertEqual([1, 0], words_reads(test, 2, ["10"], 1, [], [0, 0], [orders]))
        self.assertEqual([0, 1, 0, 1, 0, 1], words_reads(test, 2, ["01"], 3, [], [0] * 6, [orders]))
        self.assertEqual([0, 0, 1, 1, 1, 0], words_reads(test, 3, ["001", "110"], 1, [], [1, 0, 1], [orders, orders]))
        self.assertEqual([0, 1, 0, 0, 0, 0, 0, 0, 1, 1, 1, 1, 1, 1, 1, 0], words_reads(
            test, 4, ["0100", "0000", "1111", "1110"], 1, [], [0] * 4, [orders] * 4))

    def test_all_bits_of_a_word_ahead_of_the_next_step(self):
        # Bit 0 rises behind the read of bit 1, of the same word, but ahead of that of the next word.
        test = read("up w0; up r0 w1; down r1")
        orders = [["up", "up", "down"]]
        self.assertEqual([0, 0, 1, 1], words_reads(test, 2, ["00"], 1, [("turns", 0, 1, 1)], [0, 0], orders))
        self.assertEqual([0, 0, 0, 1], words_reads(test, 2, ["00"], 1, [("turns", 1, 0, 1)], [0, 0], orders))
        self.assertEqual([0, 1, 1, 1], words_reads(test, 1, ["0"], 2, [("turns", 0, 1, 1)], [0, 0], orders))
        self.assertEqual([0, 0, 1, 0, 1, 1, 1, 1], words_reads(test, 2, ["00"], 2, [("turns", 1, 2, 1)], [0] * 4, orders))

    def test_bits_from_the_first_one_on_also_downwards(self):
        # Downwards the words come the other way about, their bits do not.
        test = read("any w0; down r0 w1 r1")
        for first in ("up", "down"):
            self.assertEqual([0, 0, 0, 1], words_reads(test, 2, ["00"], 1, [("turns", 1, 0, 1)], [0, 0], [[first, "down"]]))
            self.assertEqual([0, 0, 1, 1], words_reads(test, 2, ["00"], 1, [("turns", 0, 1, 1)], [0, 0], [[first, "down"]]))
        self.assertEqual([1, 0, 0, 0], words_reads(read("down r0"), 2, ["00"], 2, [], [0, 0, 1, 0], [["down"]]))
        self.assertEqual([0, 1, 1, 0], words_reads(read("down r0"), 2, ["00"], 2, [], [1, 0, 0, 1], [["down"]]))
        self.assertEqual([1, 0, 0, 1], words_reads(read("any r0"), 2, ["00"], 2, [], [1, 0, 0, 1], [["up"]]))

    def test_once_for_each_background_in_turn(self):
        # What one leaves the next one finds; each in orders of its own.
        test = read("any r0 w0")
        self.assertEqual([1, 1, 0, 1], words_reads(test, 2, ["01", "10"], 1, [], [1, 1], [["up"], ["up"]]))
        test = read("any r0")
        self.assertEqual([1, 0, 0, 1], words_reads(test, 1, ["0", "0"], 2, [], [1, 0], [["up"], ["down"]]))
        self.assertEqual([0, 1, 1, 0], words_reads(test, 1, ["0", "1"], 2, [], [1, 0], [["down"], ["up"]]))

    def test_a_width_of_one_is_a_run(self):
        for harm in all_on([0, 1]):
            for text in TESTS:
                test = read(text)
                for orders in word_orders_of(test, ["0"])[:2]:
                    expected = [bit for bit, meant in plain_words_reads(test, 1, ["0"], 3, [harm], [1, 0, 1], orders)]
                    self.assertEqual(expected, words_reads(test, 1, ["0"], 3, [harm], [1, 0, 1], orders))

    def test_against_another(self):
        source = random.Random(50)
        for turn in range(700):
            test = read(source.choice(TESTS + ["any r0 w1 r0; down r1 r1 w0", "up r1; any w0 w1 r1"]))
            width = source.randrange(1, 5)
            backgrounds = ["".join(source.choice("01") for k in range(width)) for k in range(source.randrange(1, 5))]
            words = source.randrange(1, 5)
            size = words * width
            cells = sorted(source.sample(range(size), min(size, 3)))
            harms = source.sample(all_on(cells), source.randrange(0, 4))
            contents = [source.randrange(2) for k in range(size)]
            orders = source.choice(word_orders_of(test, backgrounds[:2])) * 2
            given = test, width, backgrounds, words, harms, contents, orders[:len(backgrounds)]
            told = words_reads(*given)
            self.assertIs(list, told.__class__)
            self.assertEqual([bit for bit, meant in plain_words_reads(*given)], told)

    def test_the_greatest(self):
        test = march_c()
        orders = [["up", "up", "up", "down", "down", "down"]] * 4
        for width, words in ((4, 16), (2, 32), (1, 64), (3, 21)):
            size = width * words
            backgrounds = [("01" * 2)[:width]] * 4
            told = words_reads(test, width, backgrounds, words, [("stuck", size - 1, 0)], [1] * size, orders)
            self.assertEqual(4 * 5 * size, len(told))
            self.assertEqual([bit for bit, meant in plain_words_reads(
                test, width, backgrounds, words, [("stuck", size - 1, 0)], [1] * size, orders)], told)


class Judged(Case):
    def fits(self, test, width, backgrounds, harms):
        told = words_judged(test, width, backgrounds, harms)
        self.assertIs(tuple, told.__class__)
        if plainly_told(test, width, backgrounds, harms):
            self.assertEqual(("told", None), told)
            return True
        self.assertEqual(("let", 3), (told[0], len(told)), (test, width, backgrounds, harms))
        self.assertIs(tuple, told[1].__class__)
        self.assertEqual(len(cells_of(harms)), len(told[1]))
        self.assertEqual((list, len(backgrounds)), (told[2].__class__, len(told[2])))
        near, words = gathered(harms, width)
        self.shows_nothing(test, width, backgrounds, words, near, told)
        return False

    def shows_nothing(self, test, width, backgrounds, words, harms, told):
        for rest in ([0], [1], [0, 1, 1]):
            contents = filled(harms, words * width, told[1], rest)
            given = test, width, backgrounds, words, harms, contents, told[2]
            self.assertFalse(plainly_shows_in_words(*given))
            self.assertEqual([meant for bit, meant in plain_words_reads(*given)], words_reads(*given))

    def test_within_a_word_and_between_words(self):
        test = read("any w0; up r0 w1; down r1")
        between, within = [("turns", 0, 2, 1)], [("turns", 0, 1, 1)]
        self.assertEqual(("told", None), words_judged(test, 2, ["00"], between))
        self.assertEqual("let", words_judged(test, 2, ["00"], within)[0])
        self.assertEqual(("told", None), words_judged(test, 1, ["0"], within))
        # Bit 0 is written ahead of bit 1, so what bit 1 does to it stays.
        self.assertEqual(("told", None), words_judged(test, 2, ["00"], [("turns", 1, 0, 1)]))
        self.assertEqual("let", words_judged(test, 2, ["01"], [("turns", 1, 0, 1)])[0])

    def test_backgrounds_tell_what_one_does_not(self):
        # Bits of a word that are always alike read the same, whichever of them is reached.
        test = read("any w0; any r0 w1; any r1")
        self.assertEqual("let", words_judged(test, 2, ["00"], [("other", 0, 1)])[0])
        self.assertEqual("let", words_judged(test, 2, ["00", "11"], [("other", 0, 1)])[0])
        self.assertEqual(("told", None), words_judged(test, 2, ["01"], [("other", 0, 1)]))
        self.assertEqual(("told", None), words_judged(test, 2, ["00", "01"], [("other", 0, 1)]))
        for width in (2, 3, 4):
            for one, other in itertools.permutations(range(width), 2):
                parting = fewest_backgrounds(width)
                self.assertEqual(("told", None), words_judged(test, width, parting, [("other", one, other)]))
                for background in parting:
                    expected = "told" if background[one] != background[other] else "let"
                    self.assertEqual(expected, words_judged(test, width, [background], [("other", one, other)])[0])

    def test_orders_anew_for_each_background(self):
        # With 0 only downwards nothing shows, with 1 only upwards.
        harms = [("turns", 0, 1, 1), ("turns", 1, 0, 0)]
        told = words_judged(read("any w0; any r0 w1"), 1, ["0", "1"], harms)
        self.assertEqual(("let", "down", "up"), (told[0], told[2][0][1], told[2][1][1]))
        self.shows_nothing(read("any w0; any r0 w1"), 1, ["0", "1"], 2, harms, told)
        self.assertEqual(("told", None), words_judged(read("any w0; up r0 w1"), 1, ["0", "1"], harms))
        self.assertEqual(("told", None), words_judged(read("any w0; down r0 w1"), 1, ["0", "1"], harms))

    def test_what_one_background_leaves_the_next_one_finds(self):
        # Cell 0 does not rise. At first it may hold 1, but behind the first run it holds 0.
        test = read("any w1 r1 w0")
        self.assertEqual("let", words_judged(test, 1, ["0"], [("slow", 0, 1)])[0])
        self.assertEqual(("told", None), words_judged(test, 1, ["0", "0"], [("slow", 0, 1)]))
        told = words_judged(read("any w1 r1"), 1, ["0", "0"], [("slow", 0, 1)])
        self.assertEqual(("let", (1,), 2), (told[0], told[1], len(told[2])))

    def test_each_harm_alone(self):
        seen = {True: 0, False: 0}
        for width, backgrounds in GROUNDS:
            cells = [0, min(1, width), 2 * width - 1] if width > 1 else [0, 1]
            for number, harm in enumerate(all_on(sorted(set(cells)))):
                for text in TESTS[number % 2:4:2]:
                    seen[self.fits(read(text), width, backgrounds, [harm])] += 1
        self.assertGreater(min(seen.values()), 200)

    def test_several(self):
        source = random.Random(51)
        seen = {True: 0, False: 0}
        for turn in range(500):
            width, backgrounds = source.choice(GROUNDS)
            cells = sorted(source.sample(range(16), 3)) if source.randrange(2) else sorted(source.sample(range(5), 3))
            harms = source.sample(all_on(cells), source.randrange(1, 4))
            seen[self.fits(read(source.choice(TESTS)), width, backgrounds, harms)] += 1
        self.assertGreater(min(seen.values()), 50)

    def test_a_width_of_one_is_as_without_words(self):
        for text in TESTS:
            test = read(text)
            for harm in all_on([0, 1]):
                self.fits(test, 1, ["0"], [harm])

    def test_what_is_let_by_shows_nothing_in_greater_memories(self):
        source = random.Random(52)
        seen = 0
        for turn in range(400):
            width, backgrounds = source.choice(GROUNDS)
            cells = sorted(source.sample(range(3 * width), min(3 * width, 3)))
            harms = source.sample(all_on(cells), source.randrange(1, 3))
            test = read(source.choice(TESTS))
            told = words_judged(test, width, backgrounds, harms)
            if told[0] == "let":
                seen += 1
                count = len({cell // width for cell in cells_of(harms)})
                for words in ([0, 2, 4], [1, 2, 3], [0, 1, 4]):
                    self.shows_nothing(test, width, backgrounds, 5, moved(harms, width, words[:count]), told)
        self.assertGreater(seen, 100)

    def test_what_is_told_shows_in_greater_memories(self):
        source = random.Random(53)
        seen = 0
        for turn in range(200):
            width, backgrounds = source.choice(GROUNDS)
            cells = sorted(source.sample(range(3 * width), min(3 * width, 3)))
            harms = source.sample(all_on(cells), source.randrange(1, 3))
            test = read(source.choice(TESTS))
            if words_judged(test, width, backgrounds, harms)[0] == "told":
                seen += 1
                count = len({cell // width for cell in cells_of(harms)})
                for words in ([0, 2, 4], [1, 2, 3]):
                    there = moved(harms, width, words[:count])
                    for orders in word_orders_of(test, backgrounds)[:4]:
                        contents = [source.randrange(2) for k in range(5 * width)]
                        given = test, width, backgrounds, 5, there, contents, orders
                        self.assertTrue(plainly_shows_in_words(*given))
                        meant = [meant for bit, meant in plain_words_reads(*given)]
                        self.assertNotEqual(meant, words_reads(*given))
        self.assertGreater(seen, 30)

    def test_placed_otherwise_it_is_told_the_same(self):
        for harm in all_on([1, 6]):
            for text in TESTS[:3]:
                expected = words_judged(read(text), 4, ["0011", "0101"], [harm])
                for words in ([0, 1], [3, 9], [0, 15]):
                    count = len(cells_of([harm]))
                    there = moved([harm], 4, words[:count])
                    self.assertEqual(expected, words_judged(read(text), 4, ["0011", "0101"], there))

    def test_the_greatest(self):
        test = [("any", [("w", 0), ("r", 0), ("w", 1), ("r", 1), ("w", 0), ("r", 0)]) for k in range(8)]
        backgrounds = ["0000", "0011", "0101", "1111"]
        harms = [("turns", 0, 63, 1), ("stuck", 30, 1), ("keeps", 63, 0, 1, 1)]
        self.assertEqual(("told", None), words_judged(test, 4, backgrounds, harms))
        told = words_judged([("any", [("w", 0), ("w", 1)] * 3)] * 8, 4, backgrounds, harms)
        self.assertEqual(("let", 3, 4), (told[0], len(told[1]), len(told[2])))
        self.assertEqual([8] * 4, [len(orders) for orders in told[2]])


class Refusals(Case):
    READS = (read("any w0; up r0"), 2, ["00", "01"], 2, [("slow", 3, 1)], [0, 1, 0, 1], [["up", "up"], ["down", "up"]])

    def with_others(self, changes):
        given = list(copy.deepcopy(self.READS))
        for place, thing in changes.items():
            given[place] = thing
        return given

    def test_a_good_one(self):
        # Cell 3, bit 1 of word 1, stays 0 where 1 is to come.
        self.assertEqual([0, 0, 0, 0, 0, 1, 0, 0], words_reads(*self.READS))

    def test_no_test_comes_first(self):
        for thing in things_that_are_no_test() + [[("up", [("r", True)])]]:
            self.refused(NoTest, words_reads, *self.with_others({0: thing}))
            self.refused(NoTest, words_reads, *self.with_others({0: thing, 3: 0, 4: None, 5: None, 6: None}))
            self.refused(NoTest, words_judged, thing, 2, ["00"], [("slow", 0, 1)])
            self.refused(NoTest, words_judged, thing, 2, ["00"], None)
        caught = self.refused(NoTest, words_judged, [("up", [("r", 0)]), ("up", [("w", 0), ("r", 2)])], 2, ["00"], [])
        self.assertEqual((1, 1), (caught.element, caught.step))

    def test_then_harms_that_are_none(self):
        for thing in of_any_kind():
            if not isinstance(thing, list):
                self.assertIsNone(self.refused(NoHarms, words_reads, *self.with_others({4: thing, 5: 5, 6: 6})).number)
                self.assertIsNone(self.refused(NoHarms, words_judged, read("any r0"), 2, ["00"], thing).number)
            harms = [("slow", 0, 1), thing]
            self.assertEqual(1, self.refused(NoHarms, words_reads, *self.with_others({3: 0, 4: harms, 6: []})).number)
            self.assertEqual(1, self.refused(NoHarms, words_judged, read("any r0"), 2, ["00"], harms).number)
        harms = [("turns", 0, 1, 1), ("turns", 2, 3, 1)]
        self.assertEqual(1, self.refused(NoHarms, words_judged, read("any w0"), 2, ["00"], harms).number)

    def test_then_a_test_that_is_not_sure(self):
        for text in ("any r0", "any w0; up r1", "up r1 w0", "any w0 w1; any r0"):
            self.refused(NotSure, words_judged, read(text), 2, ["00"], [("stuck", 0, 1)])
            self.refused(NotSure, words_judged, read(text), 2, ["00"], [])
        # Nothing of the kind is asked of a run.
        self.assertEqual([1, 0], words_reads(read("any r0"), 2, ["00"], 1, [], [1, 0], [["up"]]))

    def test_then_none_of_the_harms(self):
        for text in ("any w0; any r0", "any w1"):
            self.assertIsNone(self.refused(NoHarms, words_judged, read(text), 2, ["00"], []).number)
        self.assertEqual([0, 0], words_reads(read("up w0 r0"), 2, ["00"], 1, [], [1, 0], [["up"]]))

    def test_no_memory(self):
        for orders in ([["up", "up"]] * 2, None, []):
            for words in (0, -1, 33, 64, 10 ** 59, True, False, None, "2", [2]):
                self.refused(NoMemory, words_reads, *self.with_others({3: words, 6: orders}))
            self.refused(NoMemory, words_reads, *self.with_others({3: 1, 5: [0, 0], 6: orders}))
            self.refused(NoMemory, words_reads, *self.with_others({4: [("slow", 4, 1)], 6: orders}))
            for thing in of_any_kind() + [[], [0] * 2, [0] * 3, [0] * 5, (0,) * 4, [0, 0, 0, 2], [0, 0, 0, True],
                                          [0, 0, 0, None], "0000", [Odd()] * 4]:
                self.refused(NoMemory, words_reads, *self.with_others({5: thing, 6: orders}))
        # At most 64 bits in all.
        self.refused(NoMemory, words_reads, read("up w0"), 4, ["0000"], 17, [], [0] * 68, [["up"]])
        self.refused(NoMemory, words_reads, read("up w0"), 3, ["000"], 22, [], [0] * 66, [["up"]])
        self.assertEqual([], words_reads(read("up w0"), 4, ["0000"], 16, [], [0] * 64, [["up"]]))

    def test_no_orders(self):
        good = ["up", "up"]
        for thing in of_any_kind() + [[], [good], [good] * 3, (good, good), [tuple(good), good], good, [good, None],
                                      [good, ["up"]], [good, ["up", "up", "up"]], [good, ["up", "down"]],
                                      [["up", "down"], good], [good, ["any", "up"]], [good, [Odd(), "up"]], {0: good, 1: good},
                                      [good, "up"], [good, {"up": 1, "down": 2}], [good, []], [[], []]]:
            self.refused(NoOrders, words_reads, *self.with_others({6: thing}))
        for first, other in itertools.product(("up", "down"), repeat=2):
            self.assertEqual(8, len(words_reads(*self.with_others({6: [[first, "up"], [other, "up"]]}))))

    def test_what_is_refused_or_asked_changes_nothing(self):
        for changes in ({}, {4: [None]}, {5: [0]}, {6: [["up", "down"]] * 2}):
            given = self.with_others(changes)
            before = copy.deepcopy(given)
            try:
                words_reads(*given)
            except (NoHarms, NoMemory, NoOrders):
                pass
            self.assertEqual(before, given)
        given = [read("any w0; up r0"), 2, ["00", "01"], [("slow", 3, 1)]]
        before = copy.deepcopy(given)
        words_judged(*given)
        self.assertEqual(before, given)


class Told(unittest.TestCase):
    def test_told_lists_may_be_changed(self):
        given = read("any w0; any r0"), 2, ["00", "01"], [("slow", 2, 1)]
        told = words_judged(*given)
        expected = copy.deepcopy(told)
        self.assertEqual(2, len({id(orders) for orders in told[2]}))
        told[2][0].clear()
        told[2].pop()
        self.assertEqual(expected, words_judged(*given))
        reads = words_reads(*Refusals.READS)
        expected = list(reads)
        reads.clear()
        self.assertEqual(expected, words_reads(*Refusals.READS))
        backgrounds = fewest_backgrounds(3)
        backgrounds.clear()
        self.assertEqual(["001", "010"], fewest_backgrounds(3))

    def test_asked_twice_alike_told_alike(self):
        for harm in one_of_each_sort():
            for text in TESTS:
                self.assertEqual(words_judged(read(text), 2, ["01"], [harm]), words_judged(read(text), 2, ["01"], [harm]))


class Backgrounds(unittest.TestCase):
    def test_are_parted(self):
        self.assertIs(True, are_parted(["01"], 0, 1))
        self.assertIs(True, are_parted(["01"], 1, 0))
        self.assertIs(False, are_parted(["00"], 0, 1))
        self.assertIs(False, are_parted(["11", "00"], 0, 1))
        self.assertIs(True, are_parted(["11", "00", "10"], 0, 1))
        self.assertIs(True, are_parted(["0011", "0101"], 0, 1))
        self.assertIs(False, are_parted(["0011", "0110"], 0, 0))
        self.assertIs(False, are_parted(["0011", "1011"], 2, 3))
        self.assertIs(True, are_parted(["0011", "1011"], 0, 1))

    def test_are_parted_against_going_through(self):
        for width in (1, 2, 3, 4):
            grounds = ["".join(figures) for figures in itertools.product("01", repeat=width)]
            for backgrounds in itertools.product(grounds, repeat=2):
                for one, other in itertools.product(range(width), repeat=2):
                    columns = ["".join(ground[bit] for ground in backgrounds) for bit in (one, other)]
                    self.assertIs(columns[0] != columns[1], are_parted(list(backgrounds), one, other))

    def test_the_fewest_of_each_width(self):
        self.assertEqual(["0"], fewest_backgrounds(1))
        self.assertEqual(["01"], fewest_backgrounds(2))
        self.assertEqual(["001", "010"], fewest_backgrounds(3))
        self.assertEqual(["0011", "0101"], fewest_backgrounds(4))

    def test_they_part_all_and_no_fewer_do(self):
        for width in (2, 3, 4):
            pairs = list(itertools.combinations(range(width), 2))
            told = fewest_backgrounds(width)
            self.assertTrue(all(are_parted(told, one, other) for one, other in pairs))
            grounds = ["".join(figures) for figures in itertools.product("01", repeat=width)]
            for fewer in range(len(told)):
                for backgrounds in itertools.combinations(grounds, fewer):
                    self.assertFalse(all(are_parted(list(backgrounds), one, other) for one, other in pairs))

    def test_somewhat_beyond(self):
        self.assertEqual(["00001", "00110", "01010"], fewest_backgrounds(5))
        self.assertEqual(["00001111", "00110011", "01010101"], fewest_backgrounds(8))


if __name__ == "__main__":
    unittest.main()
