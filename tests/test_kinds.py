import copy
import unittest

from marchmend.errors import NoKind, NotSure, NoTest
from marchmend.kinds import KINDS, harms_of, let_by, told_kinds
from marchmend.texts import read
from plain import plainly_told
from samples import BY_KIND, Case, march_c, of_any_kind, things_that_are_no_test

THREE_PARTS = "any w0; up r0 w1; down r1 w0"

NO_KINDS = [thing for thing in of_any_kind() if not isinstance(thing, str) or thing != "stuck"] + [
    "Stuck", "stuck ", " slow", "sticks", "turn", "any", ["stuck"], ("stuck",), ("stuck", 0, 1), {"stuck": 1}, b"stuck"]
TESTS = [THREE_PARTS, "any w0; any r0", "any w1; any r1 w0; any r0", "any w0; up r0 w1 r1; down r1 w0 r0", "any w0 w1",
         "down w1; down r1 w0; up r0 w1; up r1 r1", "any w0 r0 r0; any w1 r1 r1",
         "any w0; up r0 w1; up r1 w0; down r0 w1; down r1 w0; any r0",
         "any w0; up r0 r0 w1 r1 r1; up r1 w0; down r0 w1; down r1 w0; any r0 r0"]


class Kinds(unittest.TestCase):
    def test_the_ten_words(self):
        self.assertEqual(("stuck", "slow", "forgets", "misreads", "turns", "sets", "keeps", "nowhere", "other", "both"),
                         KINDS)
        self.assertIs(tuple, KINDS.__class__)


class HarmsOfAKind(Case):
    def test_each_kind(self):
        self.assertEqual(10, len(BY_KIND))
        for kind, harms in BY_KIND.items():
            self.assertEqual(harms, harms_of(kind))
            self.assertEqual(sorted(harms), harms_of(kind))

    def test_how_many(self):
        self.assertEqual([2, 2, 2, 2, 4, 8, 8, 2, 2, 4], [len(harms_of(kind)) for kind in KINDS])

    def test_no_kind(self):
        for thing in NO_KINDS:
            with self.subTest(thing=thing):
                self.refused(NoKind, harms_of, thing)

    def test_told_lists_are_the_askers_own(self):
        for kind in KINDS:
            told = harms_of(kind)
            told[0] = None
            told.clear()
            self.assertEqual(BY_KIND[kind], harms_of(kind))


class ToldAndLetBy(Case):
    def test_known_ones(self):
        self.assertEqual(["both", "misreads", "nowhere", "other", "stuck"], told_kinds(read(THREE_PARTS)))
        self.assertEqual(["both", "keeps", "misreads", "nowhere", "other", "sets", "slow", "stuck", "turns"],
                         told_kinds(march_c()))
        self.assertEqual([], told_kinds(read("any w0; any r0")))
        self.assertEqual([], told_kinds(read("any w0 w1 w0")))
        self.assertEqual(["forgets", "misreads", "nowhere", "stuck"], told_kinds(read("any w0 r0 r0; any w1 r1 r1")))
        self.assertEqual(sorted(KINDS), told_kinds(read(TESTS[-1])))

    def test_known_ones_that_are_let_by(self):
        test = read(THREE_PARTS)
        # The last write is never read.
        self.assertEqual([("slow", 0, 0)], let_by(test, "slow"))
        self.assertEqual([("forgets", 0, 0), ("forgets", 0, 1)], let_by(test, "forgets"))
        self.assertEqual([], let_by(test, "stuck"))
        self.assertEqual([], let_by(test, "both"))
        self.assertEqual([("stuck", 0, 0)], let_by(read("any w0; any r0"), "stuck"))
        self.assertEqual([("nowhere", 0, 0)], let_by(read("any w0; any r0"), "nowhere"))
        self.assertEqual([("misreads", 0, 1)], let_by(read("any w0; any r0"), "misreads"))
        self.assertEqual(BY_KIND["other"], let_by(read("any w0; any r0"), "other"))
        self.assertEqual(BY_KIND["forgets"], let_by(march_c(), "forgets"))
        self.assertEqual([("turns", 1, 0, 0)], let_by(read("any w0; up r0 w1; up r1 w0"), "turns"))

    def test_each_harm_by_going_through(self):
        for text in TESTS:
            test = read(text)
            told = []
            for kind in KINDS:
                size = 1 if len(BY_KIND[kind]) == 2 and kind != "other" else 2
                let = [harm for harm in BY_KIND[kind] if not plainly_told(test, size, [harm])]
                self.assertEqual(let, let_by(test, kind))
                if not let:
                    told.append(kind)
            self.assertEqual(sorted(told), told_kinds(test))

    def test_a_kind_that_is_told_in_part_is_not_told(self):
        self.assertNotIn("slow", told_kinds(read(THREE_PARTS)))
        self.assertNotIn("stuck", told_kinds(read("any w1; any r1")))

    def test_no_test_comes_first(self):
        for thing in things_that_are_no_test() + [[("up", [("r", True)])]]:
            self.refused(NoTest, told_kinds, thing)
            for kind in ("stuck", "sticks", None):
                self.refused(NoTest, let_by, thing, kind)
        caught = self.refused(NoTest, let_by, [("up", [("r", 0)]), ("up", [("w", 0), ("r", 2)])], None)
        self.assertEqual((1, 1), (caught.element, caught.step))

    def test_then_a_test_that_is_not_sure(self):
        for text in ("any r0", "any w0; up r1", "up r1 w0", "any w0 w1; any r0"):
            self.refused(NotSure, told_kinds, read(text))
            for kind in ("stuck", "sticks", None, ["stuck"]):
                self.refused(NotSure, let_by, read(text), kind)

    def test_then_no_kind(self):
        for text in ("any w0; any r0", "any w1"):
            for thing in NO_KINDS:
                with self.subTest(thing=thing):
                    self.refused(NoKind, let_by, read(text), thing)

    def test_what_is_handed_in_stays_as_it_was(self):
        for text in TESTS:
            test = read(text)
            told_kinds(test)
            let_by(test, "sets")
            self.assertEqual(read(text), test)

    def test_told_lists_are_the_askers_own(self):
        test = read(THREE_PARTS)
        for asker in (told_kinds, lambda asked: let_by(asked, "forgets"), lambda asked: let_by(asked, "stuck")):
            told = asker(test)
            expected = copy.deepcopy(told)
            told.append(None)
            told.reverse()
            self.assertEqual(expected, asker(test))
        self.assertEqual(BY_KIND["forgets"], harms_of("forgets"))

    def test_asked_twice_alike_told_alike(self):
        for text in TESTS:
            self.assertEqual(told_kinds(read(text)), told_kinds(read(text)))
            for kind in KINDS:
                self.assertEqual(let_by(read(text), kind), let_by(read(text), kind))


if __name__ == "__main__":
    unittest.main()
