"""Harms of a memory: what is one, on which cells they are, and the same on other cells."""

from marchmend.errors import NoHarms
from marchmend.marches import is_bit, is_one_of, is_whole

PARTS = {
    "stuck": ("cell", "bit"),
    "slow": ("cell", "bit"),
    "forgets": ("cell", "bit"),
    "misreads": ("cell", "bit"),
    "turns": ("cell", "cell", "bit"),
    "sets": ("cell", "cell", "bit", "bit"),
    "keeps": ("cell", "cell", "bit", "bit"),
    "nowhere": ("cell", "bit"),
    "other": ("cell", "cell"),
    "both": ("cell", "cell", "how"),
}
JOININGS = ("and", "or")
MOST_CELLS = 64
MOST_HARMS = 3
MOST_UNLIKE = 3


def is_cell(thing):
    return is_whole(thing) and thing >= 0 and thing < MOST_CELLS


def is_part(name, thing):
    if name == "cell":
        return is_cell(thing)
    if name == "bit":
        return is_bit(thing)
    return is_one_of(thing, JOININGS)


def has_word(thing):
    return isinstance(thing, tuple) and len(thing) > 0 and isinstance(thing[0], str) and thing[0] in PARTS


def cells_in(harm):
    return [part for name, part in zip(PARTS[harm[0]], harm[1:]) if name == "cell"]


def has_parts(thing):
    names = PARTS[thing[0]]
    return len(thing) == len(names) + 1 and all([is_part(name, part) for name, part in zip(names, thing[1:])])


def is_harm(thing):
    if not has_word(thing) or not has_parts(thing):
        return False
    cells = cells_in(thing)
    return len(set(cells)) == len(cells)


def look_at_harms(thing):
    if not isinstance(thing, list) or len(thing) > MOST_HARMS:
        raise NoHarms(None)
    cells = []
    for number, harm in enumerate(thing):
        if not is_harm(harm):
            raise NoHarms(number)
        cells.extend(cells_in(harm))
        if len(set(cells)) > MOST_UNLIKE:
            raise NoHarms(number)


def cells_of(harms):
    look_at_harms(harms)
    cells = []
    for harm in harms:
        cells.extend(cells_in(harm))
    return sorted(set(cells))


def renamed(harm, names):
    parts = [harm[0]]
    for name, part in zip(PARTS[harm[0]], harm[1:]):
        parts.append(names[part] if name == "cell" else part)
    return tuple(parts)


def placed(harms, cells):
    names = dict(zip(cells_of(harms), cells))
    return [renamed(harm, names) for harm in harms]


def little(harms):
    return placed(harms, list(range(len(cells_of(harms)))))


def choices_for(name, cells):
    if name == "cell":
        return cells
    return (0, 1) if name == "bit" else JOININGS


def harms_on(word, cells):
    found = [(word,)]
    for name in PARTS[word]:
        longer = []
        for harm in found:
            longer.extend([harm + (part,) for part in choices_for(name, cells)])
        found = longer
    return sorted([harm for harm in found if is_harm(harm)])


def is_of_one_cell(word):
    return PARTS[word].count("cell") == 1
