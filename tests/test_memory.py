import copy
import itertools
import unittest

from marchmend.errors import MarchError, NoAddress, NoBit, NoHarms, NoMemory
from marchmend.memory import Memory
from plain import Plain
from samples import Case, Odd, all_on, of_any_kind, one_of_each_sort

CONTENTS = ("00", "01", "10", "11")
DEEDS = ("r0", "r1", "w00", "w01", "w10", "w11")

# Each harm alone in a memory of two cells: what stands at first where that is not what it was made of, and what
# comes of a deed where a sound memory would answer or hold something else. "w01" writes 1 at address 0; a read
# tells a bit ahead of what is held behind it.
ALONE = [
    (("stuck", 0, 0), {"10": "00", "11": "01"}, {"00 w01": "00", "01 w01": "01"}),
    (("stuck", 0, 1), {"00": "10", "01": "11"}, {"10 w00": "10", "11 w00": "11"}),
    (("stuck", 1, 0), {"01": "00", "11": "10"}, {"00 w11": "00", "10 w11": "10"}),
    (("slow", 0, 0), {}, {"10 w00": "10", "11 w00": "11"}),
    (("slow", 0, 1), {}, {"00 w01": "00", "01 w01": "01"}),
    (("slow", 1, 1), {}, {"00 w11": "00", "10 w11": "10"}),
    (("forgets", 0, 0), {}, {"00 r0": "0 10", "01 r0": "0 11"}),
    (("forgets", 0, 1), {}, {"10 r0": "1 00", "11 r0": "1 01"}),
    (("forgets", 1, 1), {}, {"01 r1": "1 00", "11 r1": "1 10"}),
    (("misreads", 0, 0), {}, {"00 r0": "1 10", "01 r0": "1 11"}),
    (("misreads", 0, 1), {}, {"10 r0": "0 00", "11 r0": "0 01"}),
    (("misreads", 1, 0), {}, {"00 r1": "1 01", "10 r1": "1 11"}),
    (("turns", 0, 1, 0), {}, {"10 w00": "01", "11 w00": "00"}),
    (("turns", 0, 1, 1), {}, {"00 w01": "11", "01 w01": "10"}),
    (("turns", 1, 0, 1), {}, {"00 w11": "11", "10 w11": "01"}),
    (("sets", 0, 1, 0, 0), {}, {"11 w00": "00"}),
    (("sets", 0, 1, 0, 1), {}, {"10 w00": "01"}),
    (("sets", 0, 1, 1, 0), {}, {"01 w01": "10"}),
    (("sets", 0, 1, 1, 1), {}, {"00 w01": "11"}),
    (("sets", 1, 0, 1, 1), {}, {"00 w11": "11"}),
    (("keeps", 0, 1, 0, 0), {"01": "00"}, {"00 w11": "00", "11 w00": "00"}),
    (("keeps", 0, 1, 0, 1), {"00": "01"}, {"01 w10": "01", "10 w00": "01"}),
    (("keeps", 0, 1, 1, 0), {"11": "10"}, {"10 w11": "10", "01 w01": "10"}),
    (("keeps", 0, 1, 1, 1), {"10": "11"}, {"11 w10": "11", "00 w01": "11"}),
    (("keeps", 1, 0, 0, 1), {"00": "10"}, {"10 w00": "10", "01 w10": "10"}),
    (("nowhere", 0, 0), {}, {"10 r0": "0 10", "11 r0": "0 11", "00 w01": "00", "01 w01": "01", "10 w00": "10",
                             "11 w00": "11"}),
    (("nowhere", 0, 1), {}, {"00 r0": "1 00", "01 r0": "1 01", "00 w01": "00", "01 w01": "01", "10 w00": "10",
                             "11 w00": "11"}),
    (("other", 0, 1), {}, {"01 r0": "1 01", "10 r0": "0 10", "01 w00": "00", "10 w00": "10", "11 w00": "10",
                           "00 w01": "01", "01 w01": "01", "10 w01": "11"}),
    (("other", 1, 0), {}, {"01 r1": "0 01", "10 r1": "1 10", "01 w10": "01", "10 w10": "00", "11 w10": "01",
                           "00 w11": "10", "01 w11": "11", "10 w11": "10"}),
    (("both", 0, 1, "and"), {}, {"10 r0": "0 10", "01 w00": "00", "11 w00": "00", "00 w01": "11", "10 w01": "11"}),
    (("both", 0, 1, "or"), {}, {"01 r0": "1 01", "01 w00": "00", "11 w00": "00", "00 w01": "11", "10 w01": "11"}),
    (("both", 1, 0, "and"), {}, {"01 r1": "0 01", "10 w10": "00", "11 w10": "00", "00 w11": "11", "01 w11": "11"}),
]


def bits(text):
    return [int(figure) for figure in text]


def sound(held, deed):
    if deed[0] == "r":
        return held[int(deed[1])] + " " + held
    cells = list(held)
    cells[int(deed[1])] = deed[2]
    return "".join(cells)


def done(memory, deed):
    if deed[0] == "w":
        told = memory.write(int(deed[1]), int(deed[2]))
        return ("" if told is None else "told something ") + as_text(memory)
    return str(memory.read(int(deed[1]))) + " " + as_text(memory)


def as_text(memory):
    return "".join(str(bit) for bit in memory.holds())


class Following(unittest.TestCase):
    def follows(self, harms, script):
        """"00>10 w01>11 r0=1>11": made of 00 holds 10; 1 written at 0, holds 11; read at 0, told 1, holds 11."""
        words = script.split(" ")
        contents, _, held = words[0].partition(">")
        memory = Memory(len(contents), harms, bits(contents))
        self.assertEqual(held, as_text(memory), (harms, script))
        for word in words[1:]:
            deed, _, held = word.partition(">")
            deed, _, told = deed.partition("=")
            expected = (told + " " if told else "") + held
            self.assertEqual(expected, done(memory, deed), (harms, script, word))

    def follows_both_ways(self, harms, script):
        self.follows(harms, script)
        self.follows(harms[::-1], script)


class Alone(unittest.TestCase):
    def test_a_sound_one(self):
        for contents in CONTENTS:
            for deed in DEEDS:
                memory = Memory(2, [], bits(contents))
                self.assertEqual(bits(contents), memory.holds())
                self.assertEqual(sound(contents, deed), done(memory, deed))

    def test_each_sort_is_there(self):
        self.assertEqual({harm[0] for harm in one_of_each_sort()}, {harm[0] for harm, firsts, unlike in ALONE})
        self.assertEqual(10, len({harm[0] for harm, firsts, unlike in ALONE}))

    def test_what_stands_at_first(self):
        for harm, firsts, unlike in ALONE:
            for contents in CONTENTS:
                self.assertEqual(firsts.get(contents, contents), as_text(Memory(2, [harm], bits(contents))), harm)

    def test_each_deed(self):
        for harm, firsts, unlike in ALONE:
            seen = set()
            for contents in CONTENTS:
                held = firsts.get(contents, contents)
                for deed in DEEDS:
                    seen.add(held + " " + deed)
                    expected = unlike.get(held + " " + deed, sound(held, deed))
                    self.assertEqual(expected, done(Memory(2, [harm], bits(contents)), deed), (harm, held, deed))
            self.assertLessEqual(set(unlike), seen)

    def test_each_deed_in_a_greater_memory(self):
        # Cells 0 and 1 lie at 1 and 3 of five; the others hold what they held.
        for harm, firsts, unlike in ALONE:
            far = tuple(1 + 2 * part if place == 1 or place == 2 and is_two_celled(harm) else part
                        for place, part in enumerate(harm))
            for contents, rest, deed in itertools.product(CONTENTS, ("000", "101", "111"), DEEDS):
                held = firsts.get(contents, contents)
                memory = Memory(5, [far], bits(spread(contents, rest)))
                self.assertEqual(spread(held, rest), as_text(memory))
                expected = unlike.get(held + " " + deed, sound(held, deed)).split(" ")
                expected[-1] = spread(expected[-1], rest)
                there = deed[0] + str(1 + 2 * int(deed[1])) + deed[2:]
                self.assertEqual(" ".join(expected), done(memory, there), (far, held, deed))

    def test_the_other_cells_stay_sound(self):
        for harm in one_of_each_sort():
            for bit in (0, 1):
                memory = Memory(4, [harm], [0, 0, bit, 1 - bit])
                for address in (2, 3, 2):
                    for written in (0, 1, 1, 0):
                        before = memory.holds()
                        self.assertIsNone(memory.write(address, written))
                        before[address] = written
                        self.assertEqual(before, memory.holds())
                        self.assertEqual(written, memory.read(address))
                        self.assertEqual(before, memory.holds())


def is_two_celled(harm):
    return harm[0] in ("turns", "sets", "keeps", "other", "both")


def spread(two, rest):
    return rest[0] + two[0] + rest[1] + two[1] + rest[2]


class Together(Following):
    def test_two_harms_of_addresses_on_one_address(self):
        self.follows([("nowhere", 0, 1), ("other", 0, 1)], "00>00 r0=1>00 w01>00 w00>00 w11>01 r0=1>01 r1=1>01")
        self.follows([("other", 0, 1), ("nowhere", 0, 1)], "00>00 r0=0>00 w01>01 r0=1>01 w00>00 r0=0>00")
        self.follows([("both", 0, 1, "and"), ("both", 0, 2, "or")],
                     "001>001 r0=0>001 w01>111 r0=1>111 w10>101 r0=0>101")
        self.follows([("both", 0, 2, "or"), ("both", 0, 1, "and")], "001>001 r0=1>001 w01>101 w00>000 w11>010 r0=0>010")
        self.follows([("both", 0, 1, "or"), ("other", 0, 2)],
                     "000>000 w01>110 r0=1>110 w20>110 w21>111 w00>001 r0=0>001")
        self.follows([("other", 0, 2), ("both", 0, 1, "or")], "000>000 w01>001 r0=1>001 w00>000 r0=0>000")
        self.follows([("nowhere", 0, 0), ("nowhere", 0, 1)], "1>1 r0=0>1 w00>1 r0=0>1")
        self.follows([("nowhere", 0, 1), ("nowhere", 0, 0)], "0>0 r0=1>0 w01>0 r0=1>0")
        self.follows([("other", 0, 1), ("other", 0, 2)], "001>001 r0=0>001 w01>011")

    def test_harms_of_several_addresses(self):
        self.follows_both_ways([("other", 0, 1), ("other", 1, 0)],
                               "01>01 r0=1>01 r1=0>01 w00>00 w11>10 r1=1>10 r0=0>10")
        self.follows_both_ways([("nowhere", 0, 0), ("other", 1, 0)], "10>10 r0=0>10 r1=1>10 w10>00 r1=0>00 w01>00")
        # A harm of an address is none of its cell: another address still reaches that.
        self.follows_both_ways([("nowhere", 1, 1), ("both", 0, 1, "or")], "00>00 r1=1>00 w01>11 r0=1>11 w10>11 w00>00")

    def test_a_slow_and_a_keeps_on_one_cell(self):
        # Reading cell 0 turns it without setting off the keeps, so that 1 may hold the other bit.
        self.follows_both_ways([("keeps", 0, 1, 1, 1), ("slow", 1, 1), ("forgets", 0, 0)],
                               "00>00 r0=0>10 w11>10 w11>10 w10>11 w10>11")
        self.follows_both_ways([("keeps", 0, 1, 1, 0), ("slow", 1, 0), ("forgets", 0, 0)],
                               "01>01 r0=0>11 w10>11 w10>11 w11>10 w11>10")
        self.follows_both_ways([("keeps", 0, 1, 1, 0), ("slow", 1, 1), ("forgets", 0, 0)],
                               "01>01 r0=0>11 w11>10 w11>10 w10>10")
        self.follows_both_ways([("keeps", 0, 1, 1, 0), ("slow", 1, 0)], "01>01 w01>10 w00>00 w11>01 w10>01 w01>10")

    def test_what_a_slow_left_acts_on_nothing(self):
        self.follows_both_ways([("slow", 0, 1), ("turns", 0, 1, 1)], "00>00 w01>00 w01>00")
        self.follows_both_ways([("slow", 0, 0), ("sets", 0, 1, 1, 1)], "00>00 w01>11 w00>11 w10>10 w01>10")

    def test_a_slow_is_only_of_what_is_written_there(self):
        self.follows_both_ways([("slow", 1, 1), ("turns", 0, 1, 1)], "00>00 w01>11 w10>10 w11>10")
        self.follows_both_ways([("slow", 1, 1), ("sets", 0, 1, 1, 1)], "00>00 w11>00 w01>11")
        self.follows_both_ways([("slow", 0, 0), ("slow", 0, 1)], "0>0 w01>0 w00>0")
        self.follows_both_ways([("slow", 0, 0), ("slow", 0, 1)], "1>1 w00>1 w01>1")

    def test_two_keeps_of_one_cell(self):
        self.follows([("keeps", 0, 2, 1, 1), ("keeps", 1, 2, 1, 0)],
                     "110>110 w21>111 w20>111 w00>011 w20>010 w21>010 w01>111 w10>101 w11>110 w20>111")
        self.follows([("keeps", 1, 2, 1, 0), ("keeps", 0, 2, 1, 1)],
                     "110>111 w21>110 w20>110 w00>010 w21>010 w01>111 w20>110 w10>100 w20>101")
        self.follows([("keeps", 0, 1, 1, 1), ("keeps", 0, 1, 1, 0)], "10>10 w10>11 w11>11 w00>01 w01>10 w11>11")
        self.follows([("keeps", 0, 1, 1, 0), ("keeps", 0, 1, 1, 1)], "10>11 w11>10 w00>00 w01>11")
        self.follows_both_ways([("keeps", 0, 1, 1, 0), ("keeps", 0, 1, 0, 1)], "11>10 w11>10 w00>01 w10>01 w01>10")

    def test_two_keeps_one_behind_the_other(self):
        self.follows([("keeps", 0, 1, 1, 1), ("keeps", 1, 2, 1, 1)],
                     "100>111 w00>011 w10>001 w20>000 w01>110 w21>111 w20>111")
        self.follows([("keeps", 1, 2, 1, 1), ("keeps", 0, 1, 1, 1)], "100>110 w20>111")
        self.follows([("keeps", 0, 1, 0, 1), ("keeps", 1, 0, 1, 1)], "00>11")
        self.follows([("keeps", 1, 0, 1, 1), ("keeps", 0, 1, 0, 1)], "00>01")

    def test_a_stuck_cell_that_is_turned_set_or_kept(self):
        for bit in (0, 1):
            held = str(bit)
            for harm in (("turns", 0, 1, 1), ("sets", 0, 1, 1, 1 - bit), ("keeps", 0, 1, 1, 1 - bit)):
                script = "0B>0B r1=B>0B w01>1B r1=B>1B w10>1B w11>1B r1=B>1B w00>0B w10>0B w11>0B w01>1B"
                self.follows_both_ways([("stuck", 1, bit), harm], script.replace("B", held))
                script = "1C>1B w10>1B w11>1B"
                self.follows_both_ways([("stuck", 1, bit), harm],
                                       script.replace("C", str(1 - bit)).replace("B", held))

    def test_a_stuck_cell_that_forgets_or_misreads(self):
        for bit in (0, 1):
            for word in ("forgets", "misreads"):
                for told in (0, 1):
                    script = "C>B r0=B>B r0=B>B w01>B r0=B>B w00>B r0=B>B"
                    self.follows_both_ways([("stuck", 0, bit), (word, 0, told)],
                                           script.replace("C", str(1 - bit)).replace("B", str(bit)))

    def test_a_stuck_cell_never_changes_so_it_acts_on_nothing(self):
        for bit in (0, 1):
            for harm in (("turns", 0, 1, 1), ("turns", 0, 1, 0), ("sets", 0, 1, 1, 1), ("sets", 0, 1, 0, 1)):
                script = "C0>B0 w01>B0 w00>B0 w01>B0"
                self.follows_both_ways([("stuck", 0, bit), harm],
                                       script.replace("C", str(1 - bit)).replace("B", str(bit)))

    def test_a_slow_or_unreached_stuck_cell(self):
        self.follows_both_ways([("stuck", 0, 1), ("slow", 0, 1)], "0>1 w00>1 w01>1 r0=1>1")
        self.follows_both_ways([("stuck", 0, 1), ("nowhere", 0, 0)], "0>1 w00>1 r0=0>1")
        self.follows_both_ways([("stuck", 1, 1), ("other", 0, 1)], "00>01 w00>01 r0=1>01 w01>01")
        self.follows_both_ways([("stuck", 1, 1), ("both", 0, 1, "and")], "00>01 r0=0>01 w01>11 r0=1>11 w00>01")
        self.follows_both_ways([("stuck", 0, 0), ("both", 0, 1, "or")], "10>00 w01>01 r0=1>01 w00>00 r0=0>00")

    def test_two_stuck_on_one_cell(self):
        self.follows([("stuck", 0, 1), ("stuck", 0, 0)], "0>1 w00>1 w01>1 r0=1>1")
        self.follows([("stuck", 0, 0), ("stuck", 0, 1)], "1>0 w00>0 w01>0 r0=0>0")
        self.follows([("stuck", 0, 0), ("slow", 0, 1), ("stuck", 0, 1)], "1>0 w01>0")

    def test_what_stands_at_first_with_stuck_and_keeps(self):
        self.follows_both_ways([("stuck", 0, 1), ("keeps", 0, 1, 1, 0)], "01>10 w11>10 w10>10 w00>10")
        self.follows_both_ways([("stuck", 0, 0), ("keeps", 0, 1, 1, 0)], "11>01 w10>00 w11>01")
        self.follows_both_ways([("stuck", 1, 0), ("keeps", 0, 1, 1, 1)], "10>10 w11>10")
        self.follows_both_ways([("stuck", 1, 1), ("keeps", 0, 1, 1, 0)], "10>11 w10>11")
        self.follows([("keeps", 0, 1, 1, 1), ("keeps", 1, 2, 1, 1), ("stuck", 1, 0)], "100>100")
        self.follows([("keeps", 0, 1, 1, 1), ("stuck", 2, 0), ("keeps", 1, 2, 1, 1)], "101>110")

    def test_what_turns_or_sets_does_nothing_at_first(self):
        self.follows([("sets", 0, 1, 1, 1), ("turns", 0, 1, 1)], "10>10 w01>10")

    def test_an_address_that_reaches_two_cells_of_which_the_first_acts_on_the_second(self):
        self.follows_both_ways([("both", 0, 1, "and"), ("turns", 0, 1, 1)], "00>00 w01>11 w00>00 w11>01 w01>11")
        for script in ("000>000 w01>110 w00>000", "010>010 w01>111 r0=1>111 w00>001", "001>001 w01>111"):
            self.follows_both_ways([("both", 0, 1, "and"), ("turns", 0, 1, 1), ("turns", 1, 2, 1)], script)
        self.follows_both_ways([("both", 0, 1, "or"), ("sets", 0, 1, 1, 0), ("turns", 1, 2, 1)],
                               "010>010 w01>111 w00>001")
        self.follows_both_ways([("both", 0, 1, "and"), ("keeps", 0, 1, 1, 0)],
                               "01>01 w01>10 r0=0>10 w00>00 w11>01 w01>10")

    def test_an_address_that_reaches_two_cells_of_which_the_second_acts_on_the_first(self):
        self.follows_both_ways([("both", 0, 1, "or"), ("turns", 1, 0, 1)], "00>00 w01>01 r0=1>01 w01>11 w00>00")
        self.follows_both_ways([("both", 0, 1, "and"), ("sets", 1, 0, 1, 0)], "00>00 w01>01 r0=0>01 w01>11 r0=1>11")

    def test_an_address_that_reaches_two_cells_that_act_when_they_are_read(self):
        self.follows_both_ways([("both", 0, 1, "or"), ("forgets", 0, 1)], "10>10 r0=1>00 r0=0>00")
        self.follows_both_ways([("both", 0, 1, "and"), ("misreads", 1, 0)], "10>10 r0=1>11 r0=1>11")
        self.follows_both_ways([("both", 0, 1, "or"), ("misreads", 1, 1), ("forgets", 0, 0)], "01>01 r0=0>10 r0=1>10")

    def test_an_address_that_reaches_another_cell(self):
        self.follows_both_ways([("other", 0, 1), ("turns", 1, 2, 1)], "000>000 w01>011 w00>001 r0=0>001 w11>010")
        self.follows_both_ways([("other", 0, 1), ("turns", 0, 2, 1)], "000>000 w01>010 w00>000")
        self.follows_both_ways([("other", 0, 1), ("slow", 1, 1)], "00>00 w01>00 r0=0>00")
        self.follows_both_ways([("other", 0, 1), ("slow", 0, 1)], "00>00 w01>01 r0=1>01")
        self.follows_both_ways([("other", 0, 1), ("forgets", 1, 1)], "01>01 r0=1>00 r0=0>00")
        self.follows_both_ways([("nowhere", 0, 1), ("turns", 0, 1, 1), ("forgets", 0, 0)], "00>00 w01>00 r0=1>00")

    def test_what_a_harm_does_to_another_cell_sets_off_nothing_further(self):
        self.follows_both_ways([("turns", 0, 1, 1), ("turns", 1, 2, 1)], "000>000 w01>110 w10>100 w11>111")
        self.follows_both_ways([("sets", 0, 1, 1, 1), ("sets", 1, 2, 1, 1)], "000>000 w01>110")
        self.follows_both_ways([("keeps", 0, 1, 1, 1), ("turns", 1, 2, 1)], "000>000 w01>110")
        self.follows_both_ways([("turns", 0, 1, 1), ("keeps", 1, 2, 1, 1)], "000>000 w01>110 w20>111 w20>111")
        self.follows_both_ways([("turns", 0, 1, 1), ("turns", 1, 0, 1)], "00>00 w01>11 w10>10 w11>01")

    def test_what_reading_does_sets_off_nothing_further(self):
        for word, told in (("forgets", "0"), ("misreads", "1")):
            for harm in (("turns", 0, 1, 1), ("sets", 0, 1, 1, 1), ("keeps", 0, 1, 1, 1)):
                self.follows_both_ways([(word, 0, 0), harm], "00>00 r0=" + told + ">10 w01>10")

    def test_in_the_order_of_the_harms(self):
        self.follows([("turns", 0, 1, 1), ("sets", 0, 1, 1, 1)], "01>01 w01>11 w00>01 w10>00 w01>11")
        self.follows([("sets", 0, 1, 1, 1), ("turns", 0, 1, 1)], "01>01 w01>10 w00>00 w01>10")
        self.follows([("sets", 0, 1, 1, 1), ("sets", 0, 1, 1, 0)], "01>01 w01>10")
        self.follows([("sets", 0, 1, 1, 0), ("sets", 0, 1, 1, 1)], "00>00 w01>11")
        self.follows([("keeps", 0, 1, 1, 1), ("turns", 0, 1, 1)], "00>00 w01>10 w10>11")
        self.follows_both_ways([("turns", 0, 1, 1), ("turns", 0, 1, 1)], "00>00 w01>10")
        self.follows_both_ways([("turns", 0, 1, 1), ("turns", 0, 2, 1)], "000>000 w01>111 w00>011")

    def test_the_first_forgets_or_misreads_for_what_it_holds(self):
        self.follows([("forgets", 0, 1), ("misreads", 0, 1)], "1>1 r0=1>0 r0=0>0")
        self.follows([("misreads", 0, 1), ("forgets", 0, 1)], "1>1 r0=0>0 r0=0>0")
        self.follows_both_ways([("forgets", 0, 0), ("misreads", 0, 1)], "0>0 r0=0>1 r0=0>0 r0=0>1")
        self.follows_both_ways([("forgets", 0, 0), ("forgets", 0, 1)], "0>0 r0=0>1 r0=1>0 r0=0>1")
        self.follows_both_ways([("misreads", 0, 0), ("misreads", 0, 1)], "0>0 r0=1>1 r0=0>0")

    def test_what_is_kept_acts_by_what_it_came_to(self):
        self.follows_both_ways([("keeps", 0, 1, 1, 0), ("turns", 1, 2, 1)], "110>100 w11>100")
        self.follows_both_ways([("keeps", 0, 1, 1, 1), ("forgets", 0, 0), ("turns", 1, 2, 1)],
                               "000>000 r0=0>100 w10>111")


class AgainstAnother(unittest.TestCase):
    def deeds(self, size):
        return [("r", address, None) for address in range(size)] + [
            ("w", address, bit) for address in range(size) for bit in (0, 1)]

    def same(self, size, harms, contents, deeds):
        one, other = Memory(size, harms, contents), Plain(size, harms, contents)
        told = [(None, one.holds())]
        expected = [(None, other.holds())]
        for letter, address, bit in deeds:
            told.append((one.read(address) if letter == "r" else one.write(address, bit), one.holds()))
            expected.append((other.read(address) if letter == "r" else other.write(address, bit), other.holds()))
        if told != expected:
            self.fail((size, harms, contents, deeds, told, expected))

    def test_all_pairs_on_two_cells(self):
        every = self.deeds(2)
        # Each deed once, and a round of all behind it, so that it is met in several states.
        for harms in itertools.product(all_on([0, 1]), repeat=2):
            for contents in itertools.product((0, 1), repeat=2):
                for start in range(len(every)):
                    self.same(2, list(harms), list(contents), [every[start]] + every[::-1] + every)

    def test_some_threes_on_three_cells(self):
        every = self.deeds(3)
        chosen = all_on([0, 1, 2])
        for number in range(0, len(chosen) ** 3, 499):
            harms = [chosen[number % len(chosen)], chosen[number // len(chosen) % len(chosen)],
                     chosen[number // len(chosen) ** 2]]
            contents = [number // 7 % 2, number // 3 % 2, number // 11 % 2]
            deeds = [every[number * 5 // (k + 1) % len(every)] for k in range(12)] + every
            self.same(3, harms, contents, deeds)


class Refusals(Case):
    def test_sizes_from_1_to_64(self):
        for size in (1, 2, 63, 64):
            memory = Memory(size, [], [0] * size)
            self.assertEqual(size, memory.size())
            self.assertIs(int, memory.size().__class__)
            self.assertEqual([0] * size, memory.holds())
        self.refused(NoMemory, Memory, 0, [], [])
        self.refused(NoMemory, Memory, 65, [], [0] * 65)
        self.refused(NoMemory, Memory, -1, [], [])

    def test_no_size(self):
        for size in of_any_kind():
            with self.subTest(size=size):
                self.refused(NoMemory, Memory, size, [], [0])
                self.refused(NoMemory, Memory, size, [], [])
                self.refused(NoMemory, Memory, size, [("stuck", 0, 1)], None)
        self.refused(NoMemory, Memory, [0], [], [0])
        self.refused(NoMemory, Memory, True, [], [0])

    def test_a_cell_that_is_not_below_the_size(self):
        self.assertEqual([1], Memory(1, [("stuck", 0, 1)], [0]).holds())
        self.assertEqual([0] * 63 + [1], Memory(64, [("stuck", 63, 1)], [0] * 64).holds())
        self.refused(NoMemory, Memory, 63, [("stuck", 63, 1)], [0] * 63)
        for size in range(1, 5):
            self.refused(NoMemory, Memory, size, [("slow", size, 1)], [0] * size)
            self.refused(NoMemory, Memory, size, [("stuck", 0, 1), ("slow", 63, 1)], [0] * size)
        for harm in (("turns", 1, 2, 0), ("sets", 2, 1, 0, 0), ("keeps", 1, 2, 1, 1), ("other", 2, 0),
                     ("other", 0, 2), ("both", 0, 2, "or"), ("nowhere", 2, 0), ("forgets", 2, 0), ("misreads", 2, 1)):
            self.refused(NoMemory, Memory, 2, [harm], [0, 0])
            self.assertEqual(3, Memory(3, [harm], [0, 0, 0]).size())

    def test_no_such_contents(self):
        for contents in of_any_kind():
            for size in (1, 2, 64):
                with self.subTest(contents=contents, size=size):
                    self.refused(NoMemory, Memory, size, [], contents)
        for contents in ([], [0], [0, 1, 0], (0, 1), "01", {0: 0, 1: 1}, [0, 2], [-1, 0], [0, True], [False, 0],
                         [0, None], ["0", "1"], [0, [1]], [Odd(), 0], [0, Odd()]):
            with self.subTest(contents=contents):
                self.refused(NoMemory, Memory, 2, [], contents)
        self.refused(NoMemory, Memory, 64, [], [0] * 63 + [2])
        self.refused(NoMemory, Memory, 64, [], [0] * 65)

    def test_no_harms(self):
        for harms in [None, True, 0, "", "stuck", {}, (), (("stuck", 0, 1),), ("stuck", 0, 1), Odd(),
                      [("stuck", 0, 1)] * 4]:
            self.assertIsNone(self.refused(NoHarms, Memory, 2, harms, [0, 0]).number)
        for thing in of_any_kind() + [["stuck", 0, 1], ("stuck", 0, True), ("turns", 1, 1, 0)]:
            self.assertEqual(0, self.refused(NoHarms, Memory, 2, [thing], [0, 0]).number)
            self.assertEqual(1, self.refused(NoHarms, Memory, 2, [("slow", 0, 1), thing], [0, 0]).number)
        harms = [("turns", 0, 1, 1), ("turns", 2, 3, 1)]
        self.assertEqual(1, self.refused(NoHarms, Memory, 4, harms, [0] * 4).number)

    def test_no_harms_comes_ahead_of_no_memory(self):
        for size, contents in ((0, []), (None, None), (2, None), (True, [0]), (2, [0]), (65, [0] * 65)):
            self.assertIsNone(self.refused(NoHarms, Memory, size, None, contents).number)
            self.assertEqual(0, self.refused(NoHarms, Memory, size, [None], contents).number)
            self.assertEqual(1, self.refused(NoHarms, Memory, size, [("stuck", 63, 1), None], contents).number)

    def test_no_address(self):
        memory = Memory(3, [("nowhere", 1, 1)], [0, 1, 0])
        for address in of_any_kind() + [3, 4, 63, 64, -1, -3, [0], (0,), "1"]:
            with self.subTest(address=address):
                self.refused(NoAddress, memory.read, address)
                self.refused(NoAddress, memory.write, address, 1)
                self.refused(NoAddress, memory.write, address, None)
                self.assertEqual([0, 1, 0], memory.holds())
        great = Memory(64, [], [0] * 64)
        self.assertEqual(0, great.read(63))
        self.refused(NoAddress, great.read, 64)

    def test_no_bit(self):
        for harms in ([], [("nowhere", 1, 1)], [("stuck", 1, 1)], [("turns", 1, 0, 0)]):
            memory = Memory(3, harms, [0, 1, 0])
            for bit in of_any_kind() + [2, -1, "1", [1]]:
                with self.subTest(bit=bit, harms=harms):
                    self.refused(NoBit, memory.write, 1, bit)
                    self.assertEqual([0, 1, 0], memory.holds())

    def test_behind_a_refusal_it_goes_on(self):
        memory = Memory(2, [("turns", 0, 1, 1)], [0, 0])
        self.refused(NoBit, memory.write, 0, 2)
        self.refused(NoAddress, memory.write, 2, 1)
        self.refused(NoAddress, memory.read, True)
        memory.write(0, 1)
        self.assertEqual([1, 1], memory.holds())


class HandedInAndTold(unittest.TestCase):
    def test_what_is_handed_in_stays_as_it_was(self):
        harms, contents = [("stuck", 0, 1), ("keeps", 0, 1, 1, 1)], [0, 0]
        memory = Memory(2, harms, contents)
        memory.write(1, 0)
        memory.read(0)
        self.assertEqual([("stuck", 0, 1), ("keeps", 0, 1, 1, 1)], harms)
        self.assertEqual([0, 0], contents)
        for wrong in ((2, [None], [0, 0]), (2, [], [0]), (0, [("stuck", 0, 1)], [])):
            before = copy.deepcopy(wrong)
            with self.assertRaises(MarchError):
                Memory(*wrong)
            self.assertEqual(before, wrong)

    def test_it_may_be_changed_behind_the_call(self):
        harms, contents = [("stuck", 0, 1)], [0, 0]
        memory = Memory(2, harms, contents)
        harms.clear()
        contents[1] = 1
        contents.append(1)
        memory.write(0, 0)
        self.assertEqual([1, 0], memory.holds())
        self.assertEqual(2, memory.size())
        harms.append(("nowhere", 1, 1))
        self.assertEqual(0, memory.read(1))

    def test_what_is_told_may_be_changed(self):
        memory = Memory(2, [], [0, 1])
        told = memory.holds()
        told[0] = 1
        told.append(5)
        self.assertEqual([0, 1], memory.holds())
        self.assertEqual(0, memory.read(0))
        memory.write(0, 1)
        self.assertEqual([1, 1, 5], told)
        held = memory.holds()
        memory.write(0, 0)
        self.assertEqual([1, 1], held)

    def test_two_made_of_the_very_same_lists_stay_apart(self):
        harms, contents = [("turns", 0, 1, 1)], [0, 0]
        one, other = Memory(2, harms, contents), Memory(2, harms, contents)
        one.write(0, 1)
        self.assertEqual([1, 1], one.holds())
        self.assertEqual([0, 0], other.holds())
        other.write(1, 1)
        self.assertEqual([1, 1], one.holds())
        self.assertEqual([0, 1], other.holds())

    def test_bits_are_whole_numbers(self):
        for harm in one_of_each_sort():
            memory = Memory(2, [harm], [0, 1])
            for bit in memory.holds() + [memory.read(0), memory.read(1)] + memory.holds():
                self.assertIs(int, bit.__class__)


if __name__ == "__main__":
    unittest.main()
