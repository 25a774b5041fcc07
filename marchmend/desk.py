"""The desk: tests are kept by names, and all is asked and answered in rows of words."""

from marchmend.errors import NoName, NoRow, TooMany
from marchmend.harms import MOST_HARMS, PARTS, is_harm
from marchmend.judging import judged
from marchmend.kinds import KINDS, told_kinds
from marchmend.marches import is_sure
from marchmend.shortest import shortest
from marchmend.spares import spared
from marchmend.texts import read, written

LETTERS = "abcdefghijklmnopqrstuvwxyz"
FIGURES = "0123456789"
OF_A_NAME = ("drop", "show", "sure", "kinds", "tells")
MOST_LETTERS = 8
MOST_NAMES = 20
MOST_STEPS = 5
MOST_KINDS = 3
MOST_SPARES = 6
MOST_CELLS = 60
LAST_ROW = 11


def look_at_row(is_one):
    if not is_one:
        raise NoRow("none of the rows that a desk is told")


def is_name(word):
    return len(word) > 0 and len(word) <= MOST_LETTERS and all([sign in LETTERS for sign in word])


def number_in(word):
    # None where it writes no number of one or two figures, or has a nought ahead.
    if len(word) not in (1, 2) or not all([sign in FIGURES for sign in word]):
        return None
    return None if len(word) == 2 and word[0] == "0" else int(word)


def is_up_to(number, most):
    return number is not None and number <= most


def are_unlike(things):
    return len(set(things)) == len(things)


def part_in(name, word):
    return word if name == "how" else number_in(word)


def harm_in(word):
    # A tuple that may be no harm; None where no sort of harm has that word and so many parts.
    words = word.split(",")
    if words[0] not in PARTS or len(words) != len(PARTS[words[0]]) + 1:
        return None
    return tuple([words[0]] + [part_in(name, part) for name, part in zip(PARTS[words[0]], words[1:])])


def cell_in(word):
    numbers = [number_in(part) for part in word.split(".")]
    return tuple(numbers) if len(numbers) == 2 and all([is_up_to(number, LAST_ROW) for number in numbers]) else None


def joined(words, sign):
    return sign.join(words) if len(words) > 0 else "-"


def said_numbers(numbers):
    return joined([str(number) for number in numbers], ",")


def said_short(words):
    most = number_in(words[0]) if len(words) > 0 else None
    kinds = words[1:]
    look_at_row(is_up_to(most, MOST_STEPS) and most > 0 and len(kinds) > 0 and len(kinds) <= MOST_KINDS)
    look_at_row(all([kind in KINDS for kind in kinds]) and are_unlike(kinds))
    test = shortest(kinds, most)
    return "none" if test is None else written(test)


def said_spares(words):
    counts = [number_in(word) for word in words[:2]]
    cells = [cell_in(word) for word in words[2:]]
    look_at_row(len(counts) == 2 and all([is_up_to(count, MOST_SPARES) for count in counts]))
    look_at_row(len(cells) <= MOST_CELLS and None not in cells and are_unlike(cells))
    told = spared(sorted(cells), counts[0], counts[1])
    return "none" if told[0] == "none" else said_numbers(told[1]) + " " + said_numbers(told[2])


def is_count_for(word, count):
    # Only tells asks of harms, and of some.
    return count > 0 and count <= MOST_HARMS if word == "tells" else count == 0


def said_of(test, word, harms):
    if word == "show":
        return written(test)
    if word == "sure":
        return "yes" if is_sure(test) else "no"
    if word == "kinds":
        return joined(told_kinds(test), " ")
    return judged(test, harms)[0]


class Desk:
    def __init__(self):
        self.kept = {}

    def say(self, row):
        look_at_row(isinstance(row, str))
        words = row.split(" ")
        if words[0] == "test":
            return self.say_test(words[1:])
        if words[0] in OF_A_NAME:
            return self.say_of(words[0], words[1:])
        if words[0] == "short":
            return said_short(words[1:])
        if words[0] == "spares":
            return said_spares(words[1:])
        look_at_row(words == ["names"])
        return joined(sorted(self.kept), " ")

    def say_test(self, words):
        look_at_row(len(words) > 1 and is_name(words[0]))
        test = read(" ".join(words[1:]))
        if words[0] not in self.kept and len(self.kept) == MOST_NAMES:
            raise TooMany("twenty tests are kept already")
        self.kept[words[0]] = test
        return "ok"

    def say_of(self, word, words):
        look_at_row(len(words) > 0 and is_name(words[0]))
        harms = [harm_in(part) for part in words[1:]]
        look_at_row(all([is_harm(harm) for harm in harms]))
        look_at_row(is_count_for(word, len(harms)))
        if words[0] not in self.kept:
            raise NoName("nothing stands by this name")
        if word == "drop":
            self.kept.pop(words[0])
            return "ok"
        return said_of(self.kept[words[0]], word, harms)
