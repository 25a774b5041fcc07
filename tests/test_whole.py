"""What is promised over the whole program."""

import copy
import itertools
import random
import unittest

from marchmend import errors
from marchmend.covers import fewest
from marchmend.desk import Desk
from marchmend.harms import cells_of, little, look_at_harms, placed
from marchmend.judging import judged
from marchmend.kinds import KINDS, harms_of, let_by, told_kinds
from marchmend.leaving import leaves_all, leaving_judged, leaving_of, leaving_shown
from marchmend.marches import is_sure, length_of, look_at_test
from marchmend.memory import Memory
from marchmend.mended import Mended, broken_of
from marchmend.naming import contents_for, fitting
from marchmend.running import first_shown, reads_of, run_on
from marchmend.shortest import numbers_for, shortest
from marchmend.spares import lets_none, spared
from marchmend.stands import first_stand, led_to, lets_numbers
from marchmend.tables import lets_table
from marchmend.texts import read, written
from marchmend.words import are_parted, fewest_backgrounds, words_judged, words_reads
from plain import (all_bits, firsts_of, orders_of, plain_reads, plain_words_reads, plainly_lets_numbers, plainly_shows,
                   plainly_tells, tests_of)
from samples import BY_KIND, Case, all_on, drawn_broken, small_tests

MARCH = "any w0; up r0 w1; up r1 w0; down r0 w1; down r1 w0; any r0"
SHORT = "any w0; up r0 w1; down r1"


def drawn_steps(source, known, most):
    steps = []
    for turn in range(source.randrange(1, most + 1)):
        if known is None or source.random() < 0.5:
            known = source.randrange(2)
            steps.append(("w", known))
        else:
            steps.append(("r", known))
    return steps, known


def drawn_test(source, most=4):
    """A sure one."""
    test, known = [], None
    for turn in range(source.randrange(1, most + 1)):
        steps, known = drawn_steps(source, known, 4)
        test.append((source.choice(["up", "down", "any"]), steps))
    return test


def drawn_harms(source, span=3):
    return source.sample(all_on(range(span)), source.randrange(1, 4))


def drawn_bits(source, size):
    return [source.randrange(2) for k in range(size)]


class Promise(Case):
    def test_a_settled_for_every_size(self):
        source = random.Random(80)
        seen = {"told": 0, "let": 0}
        for turn in range(500):
            test, harms = drawn_test(source), drawn_harms(source)
            told = judged(test, harms)
            seen[told[0]] += 1
            if told[0] == "told":
                self.assertTrue(lets_table(test, harms, told[1]))
            for size in (len(cells_of(harms)), 5, 7):
                cells = sorted(source.sample(range(size), len(cells_of(harms))))
                there, contents = placed(harms, cells), drawn_bits(source, size)
                if told[0] == "told":
                    orders = source.choice(orders_of(test))
                    self.assertIsNotNone(first_shown(test, size, there, contents, orders))
                else:
                    for cell, bit in zip(cells, told[1]):
                        contents[cell] = bit
                    self.assertIsNone(first_shown(test, size, there, contents, told[2]))
                    self.assertFalse(plainly_shows(test, size, there, contents, told[2]))
        self.assertGreater(min(seen.values()), 100)

    def test_b_whatever_table_is_let_by(self):
        # Every table that a stranger may write: where one is let by, something shows everywhere.
        lists = [], [(0,)], [(1,)], [(0,), (1,)]
        seen = set()
        for text, harm in itertools.product(("up w0; up r0", "up w1; up r1", "up w0; up w1"), all_on([0])):
            test = read(text)
            for one, two, three in itertools.product(lists, repeat=3):
                if lets_table(test, [harm], [(firsts_of(1, [harm]), [one], None), (two, [three], None)]):
                    seen.add((text, harm))
                    for size, cell in ((1, 0), (3, 0), (3, 1), (3, 2)):
                        for contents in all_bits(size):
                            self.assertTrue(plainly_shows(test, size, placed([harm], [cell]), contents, ["up", "up"]))
        self.assertEqual({("up w0; up r0", ("stuck", 0, 1)), ("up w1; up r1", ("stuck", 0, 0)),
                          ("up w0; up r0", ("nowhere", 0, 1)), ("up w1; up r1", ("nowhere", 0, 0)),
                          ("up w0; up r0", ("misreads", 0, 0)), ("up w1; up r1", ("misreads", 0, 1))}, seen)

    def test_c_just_those_that_fit(self):
        source = random.Random(82)
        for turn in range(40):
            test = source.choice([read(SHORT), read("any r0 w1; down r1 r1"), drawn_test(source, 3)])
            size, orders = source.randrange(1, 4), source.choice(orders_of(test))
            kinds = source.sample(KINDS, 4)
            harms = [harm for harm in all_on(range(size)) if harm[0] in kinds]
            reads = [bit for *place, bit in plain_reads(test, size, [source.choice(harms)] if harms else [],
                                                        drawn_bits(source, size), orders)]
            expected = [some for some in [[]] + [[harm] for harm in harms]
                        if any([bit for *place, bit in plain_reads(test, size, some, contents, orders)] == reads
                               for contents in all_bits(size))]
            self.assertEqual(sorted(expected), fitting(test, size, orders, reads, kinds))
            for some in expected:
                contents = contents_for(test, size, orders, reads, some)
                self.assertEqual(reads, run_on(test, Memory(size, some, contents), orders))

    def test_d_the_shortest(self):
        for kinds in (["stuck"], ["other"], ["misreads", "nowhere"], ["slow"], ["both"]):
            harms = [harm for kind in kinds for harm in BY_KIND[kind]]
            test = shortest(kinds, 5)
            self.assertLessEqual(set(kinds), set(told_kinds(test)))
            self.assertTrue(plainly_tells(test, harms))
            for length in range(1, 7):
                numbers = numbers_for(kinds, length)
                self.assertIs(length <= length_of(test), lets_numbers(kinds, length, numbers))
            for fewer in range(1, min(length_of(test), 4)):
                self.assertFalse(any(plainly_tells(tried, harms) for tried in tests_of(fewer)))

    def test_d_whatever_numbers_are_let_by(self):
        # No numbers are let by for a length above that of a test that tells the kinds, however they are bent.
        source = random.Random(83)
        kinds, harms = ["stuck"], BY_KIND["stuck"]
        good = numbers_for(kinds, 4)
        over = [((known, ((), ())), 5) for known in (None, 0, 1)]
        self.assertTrue(lets_numbers(kinds, 4, good + over))
        for turn in range(500):
            bent = [(stand, max(0, number + source.choice([0, 0, 0, 1, -1]))) for stand, number in good + over]
            bent = source.sample(bent, source.randrange(1, len(bent) + 1))
            self.assertFalse(lets_numbers(kinds, 5, bent))
            self.assertIs(plainly_lets_numbers(harms, 4, bent), lets_numbers(kinds, 4, bent))

    def test_e_spares(self):
        source = random.Random(84)
        for turn in range(200):
            rows, lines = source.randrange(1, 9), source.randrange(1, 9)
            size = rows * lines
            cells = sorted(source.sample(range(size), min(size, 3)))
            harms = source.sample(all_on(cells), source.randrange(1, 4))
            broken = broken_of(harms, lines)
            cover = fewest(broken)
            self.assertEqual(len(cover[0]) + len(cover[1]), len(cover[2]))
            contents = drawn_bits(source, size)
            mended, sound = Mended(rows, lines, harms, contents, cover[0], cover[1]), Memory(size, [], contents)
            for test in (read(MARCH), drawn_test(source)):
                orders = source.choice(orders_of(test))
                self.assertEqual(run_on(test, sound, orders), run_on(test, mended, orders))
            for most in itertools.product(range(3), repeat=2):
                told = spared(broken, *most)
                if told[0] == "none":
                    self.assertTrue(lets_none(broken, *most, told[1]))
                if sum(most) < len(cover[2]):
                    self.assertEqual("none", told[0])

    def test_e_whatever_tree_is_let_by(self):
        source = random.Random(85)
        for turn in range(300):
            broken = drawn_broken(source, source.randrange(1, 20))
            rows, lines = source.randrange(5), source.randrange(5)
            tree = spared(broken, rows, lines)
            # A tree of other broken cells, or for other numbers, is let by only where none do here either.
            other = drawn_broken(source, source.randrange(1, 20))
            if tree[0] == "none":
                for more in itertools.product(range(5), repeat=2):
                    for cells in (broken, other):
                        if lets_none(cells, *more, tree[1]):
                            self.assertEqual("none", spared(cells, *more)[0])

    def test_f_words(self):
        source = random.Random(86)
        seen = {"told": 0, "let": 0}
        for turn in range(300):
            test, width = drawn_test(source, 3), source.randrange(1, 5)
            backgrounds = source.choice([fewest_backgrounds(width), ["0" * width], ["1" * width, "0" * width]])
            harms = drawn_harms(source, 3)
            told = words_judged(test, width, backgrounds, harms)
            seen[told[0]] += 1
            for words in (3, 5):
                shift = source.randrange(words - 2) * width
                there = [cell + shift for cell in cells_of(harms)]
                given = [test, width, backgrounds, words, placed(harms, there), drawn_bits(source, words * width),
                         [source.choice(orders_of(test)) for background in backgrounds]]
                if told[0] == "let":
                    given[6] = told[2]
                    for cell, bit in zip(there, told[1]):
                        given[5][cell] = bit
                meant = [meant for bit, meant in plain_words_reads(*given)]
                self.assertIs(told[0] == "let", meant == words_reads(*given))
        self.assertGreater(min(seen.values()), 50)

    def test_g_leaving_tests(self):
        source = random.Random(87)
        seen = 0
        for turn in range(300):
            test = [("any", [("w", source.randrange(2))])]
            known = test[0][1][0][1]
            for more in range(source.randrange(1, 4)):
                steps, known = drawn_steps(source, known, 3)
                test.append((source.choice(["up", "down", "any"]), steps))
            for made in (leaving_of(test), drawn_test(source)):
                size = source.randrange(1, 6)
                contents, orders = drawn_bits(source, size), source.choice(orders_of(made))
                memory = Memory(size, [], contents)
                for (order, steps), taken in zip(made, orders):
                    for address in range(size) if taken == "up" else range(size - 1, -1, -1):
                        for letter, turned in steps:
                            if letter == "w":
                                memory.write(address, contents[address] ^ turned)
                if leaves_all(made):
                    seen += 1
                    self.assertEqual(contents, memory.holds())
                else:
                    self.assertNotEqual(contents, memory.holds())
            self.assertTrue(leaves_all(leaving_of(test)))
            self.assertIsNone(leaving_shown(leaving_of(test), 2, [], [0, 1], orders_of(leaving_of(test))[0]))
        self.assertGreater(seen, 300)

    def test_h_what_is_written_is_read_to_the_same(self):
        source = random.Random(88)
        for test in list(small_tests())[::7] + [drawn_test(source, 8) for turn in range(100)]:
            self.assertEqual(test, read(written(test)))
            self.assertEqual(written(test), written(read(written(test))))
            desk = Desk()
            desk.say(f"test x {written(test)}")
            self.assertEqual(written(test), desk.say("show x"))


def askings():
    """Of every function that answers something: what is asked of it."""
    test, orders, harms = read(SHORT), ["up", "up", "down"], [("turns", 0, 1, 1)]
    stand = first_stand(["slow"])
    words = [read("any w0; any r0"), 2, ["00", "01"]]
    return [
        (look_at_test, [test]), (is_sure, [test]), (length_of, [test]), (written, [test]), (read, [SHORT]),
        (look_at_harms, [harms]), (cells_of, [[("turns", 9, 2, 1), ("slow", 4, 0)]]),
        (little, [[("turns", 9, 2, 1), ("slow", 4, 0)]]), (placed, [harms, [4, 7]]),
        (reads_of, [test, 2, harms, [0, 1], orders]), (first_shown, [test, 2, harms, [0, 1], orders]),
        (judged, [test, [("stuck", 3, 1)]]), (judged, [test, [("slow", 3, 0)]]),
        (judged, [read(MARCH), [("keeps", 3, 1, 1, 0), ("both", 3, 1, "or")]]),
        (lets_table, [test, [("stuck", 3, 1)], judged(test, [("stuck", 3, 1)])[1]]), (lets_table, [test, harms, [None]]),
        (harms_of, ["keeps"]), (told_kinds, [test]), (let_by, [test, "slow"]),
        (fitting, [test, 2, orders, [0, 1, 1, 1], ["sets", "turns"]]),
        (contents_for, [test, 2, orders, [0, 1, 1, 1], harms]),
        (first_stand, [["keeps", "slow"]]), (led_to, [["slow"], stand, ("up", [("w", 0), ("r", 0)])]),
        (lets_numbers, [["slow"], 3, numbers_for(["slow"], 3)]), (lets_numbers, [["slow"], 3, [[stand, 0]]]),
        (shortest, [["turns"], 5]), (shortest, [["turns"], 2]), (numbers_for, [["slow", "other"], 3]),
        (fewest, [[(0, 1), (0, 2), (3, 1), (4, 4)]]), (spared, [[(0, 1), (0, 2), (3, 1), (4, 4)], 1, 2]),
        (spared, [[(0, 0), (0, 1), (1, 0), (1, 1)], 1, 1]), (spared, [[(0, 0), (2, 1)], 0, 1]),
        (lets_none, [[(0, 0), (2, 1)], 0, 1, ("cells", [(0, 0), (2, 1)])]),
        (broken_of, [[("turns", 9, 2, 1), ("slow", 4, 0)], 4]),
        (words_reads, words + [2, [("slow", 3, 1)], [0, 1, 0, 1], [["up", "down"], ["down", "up"]]]),
        (words_judged, words + [[("slow", 2, 1)]]), (words_judged, words + [[("other", 0, 1)]]),
        (are_parted, [["00", "01"], 0, 1]), (fewest_backgrounds, [4]),
        (leaving_of, [test]), (leaves_all, [test]),
        (leaving_shown, [test, 2, harms, [0, 1], orders]), (leaving_judged, [test, harms]),
        (leaving_judged, [read("any r0; any r0"), [("slow", 1, 1)]]),
        (lambda *given: Memory(*given).holds(), [2, harms, [0, 1]]),
        (lambda *given: Mended(*given).holds(), [2, 2, harms, [0, 1, 1, 0], [1], []]),
        (lambda *given: run_on(given[0], Mended(*given[1:6], []), given[6]), [test, 1, 2, harms, [0, 1], [0], orders]),
    ]


def lists_within(thing):
    found = [thing] if isinstance(thing, (list, dict)) else []
    parts = thing.values() if isinstance(thing, dict) else thing if isinstance(thing, (list, tuple)) else []
    for part in parts:
        found += lists_within(part)
    return found


class HandedInAndTold(unittest.TestCase):
    def test_what_is_handed_in_stays_as_it_was(self):
        for asker, given in askings():
            before = copy.deepcopy(given)
            asker(*given)
            self.assertEqual(before, given, asker)

    def test_told_lists_are_new_and_the_askers_own(self):
        for asker, given in askings():
            told = asker(*given)
            expected = copy.deepcopy(told)
            within = lists_within(told)
            ids = [id(each) for each in within]
            self.assertEqual(len(ids), len(set(ids)), asker)
            self.assertFalse(set(ids) & {id(each) for each in lists_within(given)}, asker)
            for each in within:
                each.clear()
            self.assertEqual(expected, asker(*given), asker)

    def test_what_was_handed_in_may_be_changed_behind_the_call(self):
        for asker, asked in askings():
            given = copy.deepcopy(asked)
            told = asker(*given)
            expected = copy.deepcopy(told)
            for each in lists_within(given):
                each.clear()
            self.assertEqual(expected, told, asker)
            self.assertEqual(expected, asker(*asked), asker)

    def test_asked_twice_alike_told_alike_also_behind_other_questions(self):
        asked = askings()
        first = [asker(*copy.deepcopy(given)) for asker, given in asked]
        order = list(range(len(asked)))
        random.Random(89).shuffle(order)
        for number in order + order[::-1]:
            asker, given = asked[number]
            self.assertEqual(first[number], asker(*copy.deepcopy(given)), asker)


class Refusals(Case):
    def cases(self):
        unsure, sure, harms = read("any r0"), read("any w0; any r0"), [("stuck", 0, 1)]
        memory, mended = Memory(2, [], [0, 1]), Mended(1, 2, [], [0, 1], [0], [])
        full, desk = Desk(), Desk()
        for letter in "abcdefghijklmnopqrst":
            full.say(f"test {letter} any r0")
        return {
            "NoTest": [(asker, [None] + given[1:]) for asker, given in askings() if given and given[0] == read(SHORT)
                       and asker.__name__ != "<lambda>"],
            "NoText": [(read, [None]), (read, [""]), (desk.say, ["test a up"]), (full.say, ["test z any"])],
            "NoHarms": [(look_at_harms, [None]), (cells_of, [[5]]), (little, [[5]]), (placed, [5, []]),
                        (Memory, [2, None, [0, 0]]), (reads_of, [sure, 2, [0], [0, 0], ["up", "up"]]),
                        (first_shown, [sure, 2, [0], [0, 0], ["up", "up"]]), (judged, [unsure, None]), (judged, [sure, []]),
                        (lets_table, [sure, [], []]), (contents_for, [sure, 2, None, [], [0]]), (broken_of, [[0], 2]),
                        (Mended, [0, 0, None, None, None, None]), (words_judged, [sure, 1, ["0"], []]),
                        (words_reads, [sure, 1, ["0"], 2, [0], [0, 0], [["up", "up"]]]), (leaving_judged, [unsure, []]),
                        (leaving_shown, [sure, 0, [0], 0, 0]), (full.say, ["tells a turns,0,1,1 turns,2,3,1"])],
            "NoMemory": [(Memory, [0, [], []]), (Memory, [1, [("slow", 1, 1)], [0]]), (Mended, [9, 1, [], [0] * 9, [], []]),
                         (reads_of, [sure, 0, [], [], ["up", "up"]]), (first_shown, [sure, 1, [], [], ["up", "up"]]),
                         (words_reads, [sure, 4, ["0000"], 17, [], [0] * 68, [["up", "up"]]]),
                         (leaving_shown, [sure, 2, [], [0], ["up", "up"]])],
            "NoAddress": [(memory.read, [2]), (memory.write, [-1, 5]), (mended.read, [True]), (mended.write, [2, 0])],
            "NoBit": [(memory.write, [0, 2]), (mended.write, [1, True])],
            "NoOrders": [(run_on, [sure, memory, ["up"]]), (run_on, [sure, mended, None]),
                         (reads_of, [sure, 1, [], [0], ["up"]]), (first_shown, [sure, 1, [], [0], ["up", "any"]]),
                         (fitting, [sure, 1, [], [0], []]), (contents_for, [sure, 1, [], [0], []]),
                         (words_reads, [sure, 1, ["0"], 1, [], [0], ["up", "up"]]),
                         (leaving_shown, [sure, 1, [], [0], ["up"]])],
            "NotSure": [(judged, [unsure, harms]), (lets_table, [unsure, harms, None]), (told_kinds, [unsure]),
                        (let_by, [unsure, None]), (words_judged, [unsure, 1, ["0"], harms]), (leaving_of, [unsure]),
                        (leaving_of, [read("any w0")]), (leaving_of, [read("any w0 r0; any r0")]),
                        (full.say, ["kinds a"]), (full.say, ["tells a stuck,0,1"])],
            "NoKind": [(harms_of, [None]), (let_by, [sure, "stick"])],
            "NoSpares": [(Mended, [1, 1, [], [0], [1], []]), (Mended, [1, 1, [], [0], [], [0, 0]])],
            "NoRow": [(desk.say, [None]), (desk.say, [""]), (desk.say, ["show A"]), (full.say, ["short 9 stuck"])],
            "NoName": [(desk.say, ["show a"]), (full.say, ["drop z"])],
            "TooMany": [(full.say, ["test z any r0"])],
        }

    def test_each_refusal_is_a_march_error_a_value_error_and_none_of_the_others(self):
        cases = self.cases()
        self.assertEqual(set(cases) | {"MarchError"}, {name for name, thing in vars(errors).items()
                                                       if isinstance(thing, type) and thing.__module__ == errors.__name__})
        for name, asked in cases.items():
            self.assertTrue(asked)
            for asker, given in asked:
                with self.subTest(name=name, asker=asker):
                    before = copy.deepcopy([part for part in given if not isinstance(part, (Memory, Mended))])
                    self.refused(getattr(errors, name), asker, *given)
                    self.assertEqual(before, [part for part in given if not isinstance(part, (Memory, Mended))])

    def test_of_every_function_that_takes_a_test_no_test_is_refused(self):
        asked = {asker.__name__ for asker, given in self.cases()["NoTest"]}
        self.assertEqual({"look_at_test", "is_sure", "length_of", "written", "reads_of", "first_shown", "judged", "lets_table",
                          "told_kinds", "let_by", "fitting", "contents_for", "leaving_of", "leaves_all", "leaving_shown",
                          "leaving_judged"}, asked)
        for thing in (None, [], True, "any w0", Memory(1, [], [0])):
            self.refused(errors.NoTest, words_reads, thing, 1, ["0"], 1, [], [0], [["up"]])
            self.refused(errors.NoTest, words_judged, thing, 1, ["0"], [])
            self.refused(errors.NoTest, run_on, thing, Memory(1, [], [0]), None)


if __name__ == "__main__":
    unittest.main()
