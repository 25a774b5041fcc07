import itertools
import random
import unittest

from marchmend.desk import Desk
from marchmend.errors import MarchError, NoHarms, NoName, NoRow, NoText, NotSure, TooMany
from marchmend.judging import judged
from marchmend.kinds import KINDS, told_kinds
from marchmend.marches import is_sure, length_of
from marchmend.shortest import shortest
from marchmend.spares import spared
from marchmend.texts import read, written
from samples import Case, all_on, drawn_broken, of_any_kind

MARCH = "any w0; up r0 w1; up r1 w0; down r0 w1; down r1 w0; any r0"
SHORT = "any w0; up r0 w1; down r1"
UNSURE = "any r0; up w1"
LETTERS = "abcdefghijklmnopqrstuvwxyz"


def word_of(harm):
    return ",".join(str(part) for part in harm)


def desk_with(**tests):
    desk = Desk()
    for name, text in tests.items():
        desk.say(f"test {name} {text}")
    return desk


def full_desk():
    desk = Desk()
    for letter in LETTERS[:20]:
        desk.say(f"test {letter} any w0; any r0")
    return desk


class Told(Case):
    def says(self, desk, row, expected):
        told = desk.say(row)
        self.assertIs(str, told.__class__)
        self.assertEqual(expected, told, row)

    def refuses(self, desk, row, error):
        """Refused with this, and all stands as it did."""
        before = {name: desk.say(f"show {name}") for name in desk.say("names").split(" ") if name != "-"}
        caught = self.refused(error, desk.say, row)
        self.assertEqual(before, {name: desk.say(f"show {name}") for name in desk.say("names").split(" ") if name != "-"})
        return caught


class Keeping(Told):
    def test_test_show_drop_names(self):
        desk = Desk()
        self.says(desk, "names", "-")
        self.says(desk, f"test b {SHORT}", "ok")
        self.says(desk, "names", "b")
        self.says(desk, "show b", SHORT)
        self.says(desk, f"test a {MARCH}", "ok")
        self.says(desk, "test ab any w0", "ok")
        self.says(desk, "names", "a ab b")
        self.says(desk, "show a", MARCH)
        self.says(desk, "show ab", "any w0")
        self.says(desk, "drop a", "ok")
        self.says(desk, "names", "ab b")
        self.refuses(desk, "show a", NoName)
        self.says(desk, "show b", SHORT)
        self.says(desk, "drop ab", "ok")
        self.says(desk, "drop b", "ok")
        self.says(desk, "names", "-")

    def test_in_the_stead_of_one_there(self):
        desk = desk_with(a=SHORT, b=MARCH)
        self.says(desk, "test a up w1", "ok")
        self.says(desk, "show a", "up w1")
        self.says(desk, "show b", MARCH)
        self.says(desk, "names", "a b")

    def test_whatever_is_kept_is_shown(self):
        for text in (SHORT, MARCH, UNSURE, "up w0", "; ".join(["any r0 r1 w0 w1 r0 r1"] * 8), "down w1 w1 w1 w1 w1 w1"):
            desk = desk_with(x=text)
            self.says(desk, "show x", text)

    def test_names(self):
        for name in ("a", "z", "abcdefgh", "zzzzzzzz", "test", "names", "up", "any"):
            desk = Desk()
            self.says(desk, f"test {name} {SHORT}", "ok")
            self.says(desk, "names", name)
            self.says(desk, f"show {name}", SHORT)
            self.says(desk, f"sure {name}", "yes")
            self.says(desk, f"kinds {name}", "misreads nowhere other stuck")
            self.says(desk, f"tells {name} stuck,0,1", "told")
            self.says(desk, f"drop {name}", "ok")

    def test_names_that_are_none(self):
        desk = desk_with(a=SHORT)
        for name in ("", "abcdefghi", "A", "aB", "a1", "1", "a-b", "a_b", "a.b", "a,b", "-", "\ta", "a\t", "a\n", "\n",
                     "aaaaaaaaaaaaaaaaaaaaaaaa", "a;", "'a'"):
            for row in (f"test {name} {SHORT}", f"test {name} no test", f"show {name}", f"drop {name}", f"sure {name}",
                        f"kinds {name}", f"tells {name} stuck,0,1"):
                self.refuses(desk, row, NoRow)

    def test_names_are_sorted(self):
        desk = Desk()
        for name in ("m", "b", "zz", "ba", "a", "z", "abcdefgh"):
            desk.say(f"test {name} any w0")
        self.says(desk, "names", "a abcdefgh b ba m z zz")

    def test_twenty_and_one_more(self):
        desk = full_desk()
        self.says(desk, "names", " ".join(LETTERS[:20]))
        self.refuses(desk, f"test u {SHORT}", TooMany)
        self.refuses(desk, f"test aa {SHORT}", TooMany)
        # One that is there already is told anew.
        self.says(desk, f"test t {SHORT}", "ok")
        self.says(desk, "show t", SHORT)
        self.says(desk, "drop c", "ok")
        self.says(desk, f"test u {SHORT}", "ok")
        self.refuses(desk, f"test c {SHORT}", TooMany)
        self.says(desk, "names", " ".join(sorted(set(LETTERS[:21]) - {"c"})))

    def test_too_many_comes_last(self):
        desk = full_desk()
        self.refuses(desk, "test u any w2", NoText)
        self.refuses(desk, "test u ", NoText)
        self.refuses(desk, "test u", NoRow)
        self.refuses(desk, "test U any w0", NoRow)

    def test_texts_that_write_no_test(self):
        desk = desk_with(a=SHORT)
        for text, element in (("", 0), (" ", 0), (" any w0", 0), ("any  w0", 0), ("any w0 ", 0), ("any w0;", 0),
                              ("any w0; ", 1), ("any w0;  up r0", 1), ("any w0;up r0", 0), ("any w2", 0), ("any", 0),
                              ("any w0; up x0", 1), ("any w0; ; up r0", 1), ("any\tw0", 0), ("any w0\n", 0), ("w0", 0),
                              ("any w0, up r0", 0), ("any w0; up r0 w1; sideways r1", 2), ("ANY w0", 0), ("a b c", 0),
                              ("; ".join(["any w0"] * 9), 8), ("any w0 w0 w0 w0 w0 w0 w0", 0)):
            for name in ("a", "b"):
                self.assertEqual(element, self.refuses(desk, f"test {name} {text}", NoText).element, text)

    def test_two_desks_stay_apart(self):
        one, other = desk_with(a=SHORT), desk_with(a=MARCH, b=UNSURE)
        self.says(one, "names", "a")
        self.says(other, "names", "a b")
        self.says(one, "drop a", "ok")
        self.says(other, "show a", MARCH)
        self.says(one, "names", "-")
        self.says(Desk(), "names", "-")


class Rows(Told):
    def test_what_is_no_text(self):
        desk = desk_with(a=SHORT)
        for thing in of_any_kind():
            if not isinstance(thing, str):
                self.refuses(desk, thing, NoRow)
        for thing in (["names"], ("names",), {"names": 1}, b"names", 5):
            self.refuses(desk, thing, NoRow)

    def test_rows_that_are_none(self):
        desk = desk_with(a=SHORT)
        for row in ("", " ", "  ", "a", "name", "Names", "NAMES", "names a", "names ", " names", "names  ", "\tnames",
                    "names\n", "test", "test ", "test a", "Test a any w0", " test a any w0", "test  a any w0",
                    "test  any w0", "show", "show ", "show a ", " show a", "show  a", "show a b", "show a a", "drop",
                    "drop ", "drop a ", "drop a a", "drop  a", "sure", "sure a ", "sure a a", "sure a stuck,0,1", "kinds",
                    "kinds a ", "kinds a stuck", "kinds  a", "tells", "tells a", "tells a ", "tells  a stuck,0,1",
                    "tells a  stuck,0,1", "tells a stuck,0,1 ", "tells stuck,0,1", "short", "short ", "short 3",
                    "short 3 ", "short  3 stuck", "short 3  stuck", "short 3 stuck ", "spares", "spares ", "spares 1",
                    "spares 1 ", "spares 1 1 ", "spares  1 1", "spares 1  1", "spares 1 1  0.0", "spares 1 1 0.0 ",
                    "-", "ok", "quit", "test;a;any w0", "show\ta", "a show", "tell a stuck,0,1", "spare 1 1"):
            self.refuses(desk, row, NoRow)

    def test_no_name(self):
        desk = desk_with(a=SHORT)
        for name in ("b", "aa", "abcdefgh"):
            for row in (f"show {name}", f"drop {name}", f"sure {name}", f"kinds {name}", f"tells {name} stuck,0,1",
                        f"tells {name} turns,0,1,1 turns,2,3,1"):
                self.refuses(desk, row, NoName)

    def test_no_row_comes_ahead_of_no_name(self):
        desk = desk_with(a=SHORT)
        for row in ("show b c", "drop b ", "sure b b", "kinds b stuck", "tells b", "tells b stuck,0,2", "tells b stuck,0,1 x"):
            self.refuses(desk, row, NoRow)

    def test_no_name_comes_ahead_of_what_the_stages_refuse(self):
        desk = desk_with(a=UNSURE)
        self.refuses(desk, "tells b turns,0,1,1 turns,2,3,1", NoName)
        self.refuses(desk, "tells a turns,0,1,1 turns,2,3,1", NoHarms)
        self.refuses(desk, "tells a turns,0,1,1", NotSure)
        self.refuses(desk, "kinds b", NoName)
        self.refuses(desk, "kinds a", NotSure)


class Asking(Told):
    def test_sure(self):
        desk = desk_with(a=SHORT, b=UNSURE, c="any w0; up r1", d="up w1 r1")
        for name, expected in (("a", "yes"), ("b", "no"), ("c", "no"), ("d", "yes")):
            self.says(desk, f"sure {name}", expected)

    def test_kinds(self):
        desk = desk_with(a=SHORT, b="any w0; any r0", c=MARCH)
        self.says(desk, "kinds a", "misreads nowhere other stuck")
        self.says(desk, "kinds b", "-")
        self.says(desk, "kinds c", "both keeps misreads nowhere other sets slow stuck turns")
        for text in (SHORT, MARCH, "any w0 r0 r0; any w1 r1 r1"):
            self.says(desk_with(x=text), "kinds x", " ".join(told_kinds(read(text))))

    def test_tells(self):
        desk = desk_with(a=SHORT, b="any w0; any r0")
        self.says(desk, "tells a stuck,0,1", "told")
        self.says(desk, "tells b stuck,0,0", "let")
        self.says(desk, "tells a slow,5,0", "let")
        self.says(desk, "tells a sets,0,1,1,0", "let")
        self.says(desk, "tells a sets,0,1,1,1", "told")
        self.says(desk, "tells a both,0,63,and", "told")
        self.says(desk, "tells b both,0,63,or", "let")
        self.says(desk, "tells a stuck,0,1 stuck,63,0", "told")
        self.says(desk, "tells a turns,0,1,1 turns,0,1,1", "let")
        self.says(desk, "tells a turns,0,1,1 turns,0,1,1 turns,0,1,1", "told")
        self.says(desk, "tells a stuck,10,1 slow,20,1 slow,30,0", "told")

    def test_tells_every_harm(self):
        for text in (SHORT, MARCH):
            desk = desk_with(x=text)
            for harm in all_on([0, 10, 63]):
                self.says(desk, f"tells x {word_of(harm)}", judged(read(text), [harm])[0])

    def test_tells_several_in_their_order(self):
        source = random.Random(70)
        desk = desk_with(x=SHORT)
        seen = set()
        for turn in range(300):
            harms = source.sample(all_on([0, 1, 2]), source.randrange(2, 4))
            expected = judged(read(SHORT), harms)[0]
            seen.add(expected)
            self.says(desk, "tells x " + " ".join(word_of(harm) for harm in harms), expected)
        self.assertEqual({"told", "let"}, seen)
        self.says(desk, "tells x turns,0,1,1 sets,0,1,1,0", "let")
        self.says(desk, "tells x sets,0,1,1,0 turns,0,1,1", "told")

    def test_what_writes_no_harm(self):
        desk = desk_with(a=SHORT)
        for word in ("stuck", "stuck,", "stuck,0", "stuck,0,", "stuck,,1", ",0,1", "stuck,0,1,", "stuck,0,1,1", "stuck,0,2",
                     "stuck,64,1", "stuck,-1,1", "stuck,00,1", "stuck,01,1", "stuck,0,01", "stuck,0,00", "stuck,100,1",
                     "stuck,000,1", "stuck,063,1", "stuck,0x1,1", "stuck,+1,1", "stuck,1.0,1", "stuck,a,1", "stuck,0,a",
                     "Stuck,0,1", "sticks,0,1", "turns,0,0,1", "turns,5,5,1", "turns,0,1", "turns,0,1,1,1", "other,3,3",
                     "other,0", "other,0,1,1", "both,0,1", "both,0,1,xor", "both,0,1,1", "both,0,1,And", "both,1,1,or",
                     "sets,0,1,1", "keeps,0,1,2,0", "nowhere,0", "stuck.0.1", "stuck;0;1", "(stuck,0,1)", "stuck,0,1\t",
                     "stuck,0,\t1", "stuck,0,1\n", "0,1,stuck", "stuck,True,1", "stuck,0,None", "stuck,99,1", "slow,0,10"):
            self.refuses(desk, f"tells a {word}", NoRow)
            self.refuses(desk, f"tells a slow,0,1 {word}", NoRow)
            self.refuses(desk, f"tells a {word} slow,0,1", NoRow)

    def test_figures(self):
        desk = desk_with(a=SHORT)
        for number in range(64):
            self.says(desk, f"tells a stuck,{number},1", "told")
        for word in ("63", "10", "9", "0"):
            self.says(desk, f"tells a slow,{word},0", "let")
        for word in ("64", "99", "010", "09", "00", "100", "630", ""):
            self.refuses(desk, f"tells a slow,{word},0", NoRow)

    def test_four_harms_and_four_cells(self):
        desk = desk_with(a=SHORT)
        self.refuses(desk, "tells a" + " stuck,0,1" * 4, NoRow)
        self.assertEqual(1, self.refuses(desk, "tells a turns,0,1,1 turns,2,3,1", NoHarms).number)
        self.assertEqual(2, self.refuses(desk, "tells a slow,0,1 turns,1,2,1 slow,3,0", NoHarms).number)
        self.refuses(desk, "tells b turns,0,1,1 turns,2,3,1", NoName)

    def test_not_sure(self):
        desk = desk_with(a=UNSURE)
        self.refuses(desk, "tells a stuck,0,1", NotSure)
        self.refuses(desk, "kinds a", NotSure)
        self.says(desk, "show a", UNSURE)


class Short(Told):
    def test_known_ones(self):
        desk = Desk()
        self.says(desk, "short 1 stuck", "none")
        self.says(desk, "short 3 stuck", "none")
        self.says(desk, "short 5 forgets", "none")
        self.says(desk, "short 5 sets keeps turns", "none")
        for row, length in (("short 4 stuck", 4), ("short 5 stuck", 4), ("short 3 other", 3), ("short 5 both", 5),
                            ("short 5 stuck nowhere misreads", 4)):
            test = read(desk.say(row))
            self.assertEqual(length, length_of(test))
            self.assertTrue(is_sure(test))
            self.assertLessEqual(set(row.split(" ")[2:]), set(told_kinds(test)))

    def test_each_kind_and_most(self):
        desk = Desk()
        for kind, most in itertools.product(KINDS, range(1, 6)):
            test = shortest([kind], most)
            self.says(desk, f"short {most} {kind}", "none" if test is None else written(test))

    def test_wrong_ones(self):
        desk = desk_with(a=SHORT)
        for row in ("short 0 stuck", "short 6 stuck", "short 05 stuck", "short 10 stuck", "short 55 stuck", "short x stuck",
                    "short -1 stuck", "short +5 stuck", "short 5.0 stuck", "short stuck", "short stuck 5", "short 5",
                    "short 5 stuck stuck", "short 5 stuck slow stuck", "short 5 stuck slow other both", "short 5 sticks",
                    "short 5 Stuck", "short 5 stuck,slow", "short 5 stuck 5", "short 5 stuck slow x", "short 5 a",
                    "short 5 any w0", "short  stuck"):
            self.refuses(desk, row, NoRow)


class Spares(Told):
    def test_known_ones(self):
        desk = Desk()
        self.says(desk, "spares 0 0", "- -")
        self.says(desk, "spares 6 6", "- -")
        self.says(desk, "spares 1 0 4.7", "4 -")
        self.says(desk, "spares 0 1 4.7", "- 7")
        self.says(desk, "spares 0 0 4.7", "none")
        self.says(desk, "spares 2 0 0.0 0.1 11.10", "0,11 -")
        self.says(desk, "spares 0 3 0.0 0.1 11.10", "- 0,1,10")
        self.says(desk, "spares 0 2 0.0 0.1 11.10", "none")
        self.says(desk, "spares 1 1 0.0 0.1 1.0 1.1", "none")
        self.says(desk, "spares 1 1 0.0 0.1 0.2 1.11 2.11 3.11", "0 11")
        self.says(desk, "spares 2 1 0.0 0.1 0.2 1.11 2.11 3.11 9.0 9.1 9.2", "0,9 11")

    def test_in_any_order(self):
        desk = Desk()
        self.says(desk, "spares 2 0 11.10 0.1 0.0", "0,11 -")
        self.says(desk, "spares 2 0 2.0 10.0 2.1", "2,10 -")
        cells = ["0.0", "0.1", "0.2", "3.3", "4.3"]
        for order in itertools.permutations(cells):
            self.says(desk, "spares 1 1 " + " ".join(order), "0 3")

    def test_against_spared(self):
        source = random.Random(71)
        desk = Desk()
        seen = set()
        for turn in range(200):
            broken = drawn_broken(source, source.randrange(61))
            rows, lines = source.randrange(7), source.randrange(7)
            told = spared(broken, rows, lines)
            expected = "none" if told[0] == "none" else " ".join(
                ",".join(str(number) for number in each) or "-" for each in told[1:])
            seen.add(told[0])
            words = [f"{row}.{line}" for row, line in broken]
            source.shuffle(words)
            self.says(desk, " ".join(["spares", str(rows), str(lines)] + words), expected)
        self.assertEqual({"none", "spares"}, seen)

    def test_sixty_and_sixty_one(self):
        desk = desk_with(a=SHORT)
        cells = [f"{row}.{line}" for row in range(12) for line in range(12)]
        self.says(desk, "spares 5 0 " + " ".join(cells[:60]), "0,1,2,3,4 -")
        self.refuses(desk, "spares 6 0 " + " ".join(cells[:61]), NoRow)
        self.says(desk, "spares 6 6 " + " ".join(cells[:60]), desk.say("spares 6 6 " + " ".join(cells[:60][::-1])))

    def test_wrong_ones(self):
        desk = desk_with(a=SHORT)
        for row in ("spares 7 0", "spares 0 7", "spares 00 0", "spares 0 06", "spares 10 1", "spares -1 0", "spares x 0",
                    "spares 0 x", "spares 0", "spares 0.0 1", "spares 1 1.1", "spares 1,1", "spares 1 1 0.0 0.0",
                    "spares 1 1 0.0 1.1 0.0", "spares 1 1 12.0", "spares 1 1 0.12", "spares 1 1 00.0", "spares 1 1 0.00",
                    "spares 1 1 01.0", "spares 1 1 0.01", "spares 1 1 0", "spares 1 1 0.", "spares 1 1 .0", "spares 1 1 .",
                    "spares 1 1 0.0.0", "spares 1 1 0,0", "spares 1 1 -1.0", "spares 1 1 a.b", "spares 1 1 0.0 x",
                    "spares 1 1 100.0", "spares 1 1 0.100", "spares 1 1 0.0\t", "spares 1 1 99.1", "spares a 1 1"):
            self.refuses(desk, row, NoRow)
        for cell in ("10.10", "11.11", "0.11", "11.0", "9.10"):
            self.says(desk, f"spares 0 1 {cell}", "- " + cell.split(".")[1])


class Alike(Told):
    def test_asked_twice_alike_told_alike(self):
        desk = desk_with(a=SHORT, b=MARCH)
        rows = ["names", "show a", "sure b", "kinds a", "tells b forgets,0,1", "short 5 turns", "spares 1 1 0.0 1.1"]
        told = [desk.say(row) for row in rows]
        for row, expected in list(zip(rows, told))[::-1]:
            self.says(desk, row, expected)

    def test_asking_changes_nothing(self):
        desk = desk_with(a=SHORT)
        for row in ("show a", "sure a", "kinds a", "tells a stuck,0,1", "short 4 stuck", "spares 1 1 0.0", "names"):
            desk.say(row)
            self.says(desk, "show a", SHORT)
            self.says(desk, "names", "a")

    def test_every_refusal_is_a_march_error(self):
        desk = full_desk()
        for row in (None, "x", "show zz", "test zz any", "test zz any w0", "tells a turns,0,1,1 turns,2,3,1"):
            with self.assertRaises(MarchError):
                desk.say(row)


if __name__ == "__main__":
    unittest.main()
