import copy
import re
import unittest

from marchmend.errors import MarchError, NoTest, NoText
from marchmend.marches import look_at_test
from marchmend.texts import read, written
from samples import ORDERS, STEPS, Odd, eight_by_six, march_c, small_tests

TEXT = "any w0; up r0 w1; down r1"
TEST = [("any", [("w", 0)]), ("up", [("r", 0), ("w", 1)]), ("down", [("r", 1)])]
ONE = "any w0"
SIGNS = [chr(code) for code in range(32, 127)] + ["\t", "\n"]


def first_wrong_part(text):
    """The number that NoText is to name, None where the text writes a test."""
    for number, part in enumerate(text.split("; ")):
        if number == 8 or not re.fullmatch("(up|down|any)( [rw][01]){1,6}", part):
            return number
    return None


class Case(unittest.TestCase):
    def refused(self, thing, element):
        with self.assertRaises(NoText) as caught:
            read(thing)
        self.assertEqual(element, caught.exception.element)
        self.assertIs(int, caught.exception.element.__class__)
        self.assertIsInstance(caught.exception, MarchError)
        self.assertNotIsInstance(caught.exception, NoTest)


class Written(unittest.TestCase):
    def test_ordinary_ones(self):
        self.assertEqual(TEXT, written(TEST))
        self.assertEqual("any w0; up r0 w1; up r1 w0; down r0 w1; down r1 w0; any r0", written(march_c()))

    def test_each_order_and_each_step(self):
        for order in ORDERS:
            self.assertEqual(order + " r0 r1 w0 w1", written([(order, list(STEPS))]))

    def test_the_least_and_the_most(self):
        self.assertEqual("up r1", written([("up", [("r", 1)])]))
        self.assertEqual("; ".join(["down w1 w1 w1 w1 w1 w1"] * 8), written([("down", [("w", 1)] * 6)] * 8))

    def test_it_is_a_text(self):
        self.assertIs(str, written(TEST).__class__)


class Read(Case):
    def test_ordinary_ones(self):
        self.assertEqual(TEST, read(TEXT))
        self.assertEqual(march_c(), read("any w0; up r0 w1; up r1 w0; down r0 w1; down r1 w0; any r0"))

    def test_each_order_and_each_step(self):
        for order in ORDERS:
            self.assertEqual([(order, STEPS)], read(order + " r0 r1 w0 w1"))

    def test_kinds_are_those_of_a_test(self):
        test = read(TEXT)
        self.assertIs(list, test.__class__)
        for element in test:
            self.assertEqual([tuple, str, list], [x.__class__ for x in (element, element[0], element[1])])
            for step in element[1]:
                self.assertEqual([tuple, str, int], [x.__class__ for x in (step, step[0], step[1])])

    def test_one_that_is_not_sure_is_read_too(self):
        self.assertEqual([("up", [("r", 1)])], read("up r1"))

    def test_one_to_eight_parts(self):
        for length in range(1, 9):
            self.assertEqual([("any", [("w", 0)])] * length, read("; ".join([ONE] * length)))

    def test_one_to_six_steps(self):
        for length in range(1, 7):
            self.assertEqual([("any", [("w", 0)] * length)], read("any" + " w0" * length))
        self.refused("any", 0)
        self.refused("any" + " w0" * 7, 0)
        self.refused("any w0; up" + " w0" * 7, 1)


class BackAndForth(unittest.TestCase):
    def test_what_is_written_is_read_to_the_same(self):
        for test in [march_c(), eight_by_six(), TEST]:
            self.assertEqual(test, read(written(test)))
        for test in small_tests():
            if read(written(test)) != test:
                self.fail(test)

    def test_what_is_read_is_written_to_the_same(self):
        for text in (TEXT, ONE, written(eight_by_six())):
            self.assertEqual(text, written(read(text)))


class OtherTexts(Case):
    def test_one_blank_too_many(self):
        self.refused(" any w0; up r0", 0)
        self.refused("any  w0; up r0", 0)
        self.refused("any w0 ; up r0", 0)
        self.refused("any w0;  up r0", 1)
        self.refused("any w0; up  r0", 1)
        self.refused("any w0; up r0  w1", 1)
        self.refused("any w0; up r0 ", 1)
        self.refused("any w 0", 0)

    def test_one_blank_too_few(self):
        self.refused("anyw0; up r0", 0)
        self.refused("any w0;up r0", 0)
        self.refused("any w0; upr0", 1)
        self.refused("any w0; up r0w1", 1)

    def test_a_part_left_out_or_empty(self):
        self.refused("any w0; ; up r0", 1)
        self.refused("; any w0", 0)
        self.refused("any; up r0", 0)
        self.refused("w0; up r0", 0)
        self.refused("any w0; up; down r0", 1)
        self.refused("any w0; r0", 1)
        self.refused("any w0;; up r0", 0)
        self.refused("any w0; ; ; up r0", 1)

    def test_an_empty_text_and_bare_signs(self):
        for text in ("", " ", ";", "; ", " ; ", "; ; ", "\n", "\t"):
            with self.subTest(text=text):
                self.refused(text, 0)

    def test_a_text_that_ends_with_the_parting_sign(self):
        self.refused("any w0; ", 1)
        self.refused("any w0;", 0)
        self.refused("any w0; up r0; ", 2)
        self.refused("any w0; up r0;", 1)
        self.refused("; ".join([ONE] * 8) + "; ", 8)
        self.refused("; ".join([ONE] * 8) + ";", 7)

    def test_tabs_and_line_feeds(self):
        self.refused("any\tw0", 0)
        self.refused("any\nw0", 0)
        self.refused("any w0;\tup r0", 0)
        self.refused("any w0;\nup r0", 0)
        self.refused("any w0\n", 0)
        self.refused("any w0\t", 0)
        self.refused("\nany w0", 0)
        self.refused("any w0; up r0\n", 1)
        self.refused("any w0; \nup r0", 1)
        self.refused("any w0\n; up r0", 0)

    def test_other_words(self):
        for part in ("Any w0", "UP r0", "both r0", "up R0", "up r2", "up x0", "up r", "up 0", "up 0r", "up r00",
                     "up r-0", "up r0,", "up r0 up", "up up", "up r0 down r1", "up,r0", "up (r0)", "up r0; w1"):
            with self.subTest(part=part):
                self.refused(part, 1 if "; " in part else 0)
                self.refused("any w0; down r0; " + part, 3 if "; " in part else 2)

    def test_the_first_part_that_writes_none_is_named(self):
        self.refused("any w0; up x0; sideways r0; ", 1)
        for place in range(8):
            parts = [ONE] * 8
            parts[place] = "up"
            self.refused("; ".join(parts), place)
            self.refused("; ".join(parts + [ONE] * 3), place)
            self.refused("; ".join(parts + ["up"]), place)

    def test_a_ninth_part(self):
        self.refused("; ".join([ONE] * 9), 8)
        self.refused("; ".join([ONE] * 8 + ["up"]), 8)
        self.refused("; ".join([ONE] * 10 + [""]), 8)
        self.refused("; ".join([ONE] * 200), 8)

    def test_whatever_one_sign_is_changed(self):
        for text in (TEXT, "; ".join([ONE] * 8), "up" + " r1" * 6 + "; down w0"):
            for place in range(len(text) + 1):
                ahead, behind = text[:place], text[place:]
                edits = [ahead + behind[1:]]
                edits += [ahead + sign + behind for sign in SIGNS]
                edits += [ahead + sign + behind[1:] for sign in SIGNS]
                for edit in edits:
                    self.settled_rightly(edit)

    def settled_rightly(self, text):
        wrong = first_wrong_part(text)
        if wrong is not None:
            self.refused(text, wrong)
            return
        test = read(text)
        self.assertIsNone(look_at_test(test))
        self.assertEqual(text, written(test))

    def test_what_is_no_text(self):
        for thing in (None, True, False, 0, 1, -3, 10 ** 59, [], [TEXT], (), (TEXT,), {}, {TEXT: 1}, set(), object(),
                      Odd(), TEXT.encode(), TEST, TEST[0], len, str):
            with self.subTest(thing=thing):
                self.refused(thing, 0)


class TheAskersOwn(Case):
    def test_a_told_test_that_is_changed_changes_no_later_answer(self):
        told = read(TEXT)
        told[0][1].append(("r", 1))
        told[1][1].clear()
        told.pop()
        self.assertEqual(TEST, read(TEXT))
        self.assertEqual(TEXT, written(TEST))

    def test_no_two_answers_share_a_list(self):
        one, other = read("up w0; up w0"), read("up w0; up w0")
        lists = [one, other, one[0][1], one[1][1], other[0][1], other[1][1]]
        self.assertEqual(6, len({id(each) for each in lists}))

    def test_a_refusal_changes_no_later_answer(self):
        self.refused("any w0; up", 1)
        self.assertEqual(TEST, read(TEXT))
        self.refused("any w0; up", 1)

    def test_what_is_handed_in_stays_as_it_was(self):
        for thing in ([TEXT], {TEXT: [1]}):
            before = copy.deepcopy(thing)
            self.refused(thing, 0)
            self.assertEqual(before, thing)

    def test_asked_twice_alike_told_alike(self):
        self.assertEqual(read(TEXT), read(TEXT))
        self.assertEqual(written(TEST), written(copy.deepcopy(TEST)))


if __name__ == "__main__":
    unittest.main()
