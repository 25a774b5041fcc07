"""Spare rows and lines for broken cells, or a tree by which none do, and a small checker of such trees."""

from marchmend.covers import fewest
from marchmend.marches import is_one_of, is_pair, is_whole


def without_row(broken, row):
    return [cell for cell in broken if cell[0] != row]


def without_line(broken, line):
    return [cell for cell in broken if cell[1] != line]


def one_in_each(broken, place):
    # The first broken cell of each line, or, where place is 0, of each row.
    found = {}
    for cell in broken:
        found.setdefault(cell[place], cell)
    return found


def spared_by_one_sort(broken, rows, lines):
    # Only lines are there, or only rows: so all that have a broken cell are needed.
    place = 1 if rows == 0 else 0
    found = one_in_each(broken, place)
    if len(found) > rows + lines:
        return ("none", ("cells", list(found.values())))
    needed = sorted(found)
    return ("spares", [], needed) if place == 1 else ("spares", needed, [])


def busiest(broken):
    # Split where a row or line holds the most, the cells are soonest gone or too many.
    rows = [cell[0] for cell in broken]
    lines = [cell[1] for cell in broken]
    return max(broken, key=lambda cell: (max(rows.count(cell[0]), lines.count(cell[1])), cell))


def spared_by_split(broken, rows, lines):
    cell = busiest(broken)
    one = spared(without_row(broken, cell[0]), rows - 1, lines)
    if one[0] == "spares":
        return ("spares", sorted([cell[0]] + one[1]), one[2])
    other = spared(without_line(broken, cell[1]), rows, lines - 1)
    if other[0] == "spares":
        return ("spares", other[1], sorted([cell[1]] + other[2]))
    return ("none", ("split", cell, one[1], other[1]))


def spared(broken, rows, lines):
    if rows == 0 or lines == 0:
        return spared_by_one_sort(broken, rows, lines)
    cover = fewest(broken)
    if len(cover[2]) > rows + lines:
        return ("none", ("cells", cover[2]))
    if len(cover[0]) <= rows and len(cover[1]) <= lines:
        return ("spares", cover[0], cover[1])
    return spared_by_split(broken, rows, lines)


def is_broken(broken, thing):
    return is_pair(thing) and is_whole(thing[0]) and is_whole(thing[1]) and thing in broken


def are_unlike(things):
    return len(set(things)) == len(things)


def are_too_many(broken, rows, lines, thing):
    if not isinstance(thing, list) or not all([is_broken(broken, cell) for cell in thing]):
        return False
    if rows > 0 and not are_unlike([cell[0] for cell in thing]):
        return False
    if lines > 0 and not are_unlike([cell[1] for cell in thing]):
        return False
    return len(thing) > rows + lines


def has_word(thing, word, length):
    return isinstance(thing, tuple) and len(thing) == length and is_one_of(thing[0], (word,))


def is_split(broken, rows, lines, thing):
    # Each way down has one row or line less, so this goes no deeper than there are such, however deep the thing is.
    cell = thing[1]
    if not is_broken(broken, cell):
        return False
    one = lets_none(without_row(broken, cell[0]), rows - 1, lines, thing[2]) if rows > 0 else thing[2] is None
    other = lets_none(without_line(broken, cell[1]), rows, lines - 1, thing[3]) if lines > 0 else thing[3] is None
    return one and other


def lets_none(broken, rows, lines, thing):
    if has_word(thing, "cells", 2):
        return are_too_many(broken, rows, lines, thing[1])
    return has_word(thing, "split", 4) and is_split(broken, rows, lines, thing)
