"""Faults that fit what was read."""

from marchmend.harms import cells_of, harms_on, little, look_at_harms
from marchmend.machine import Little, deeds
from marchmend.marches import look_at_test
from marchmend.running import look_at_orders


def deeds_heard(test, size, orders, reads):
    # All deeds of the run, a read with the bit that was read in the place of the one that was
    # to come: so a run fits where nothing shows. None where more or fewer bits were read.
    heard = []
    left = list(reversed(reads))
    for number, element in enumerate(test):
        for address, place, step in deeds(orders[number], element[1], size):
            if step[0] == "w":
                heard.append((address, step))
            elif len(left) == 0:
                return None
            else:
                heard.append((address, ("r", left.pop())))
    return heard if len(left) == 0 else None


def contents_at(heard, cells, harms):
    # What is read at the cells of the harms hangs on these alone, and so does what is read at each
    # sound cell: they are gone through by themselves, never all first contents of the whole memory.
    memory = Little(little(harms), len(cells))
    own = [(cells.index(address), step) for address, step in heard if address in cells]
    firsts = memory.firsts()
    for held in firsts:
        if memory.gone_through(held, own) is not None:
            return firsts[held]
    return None


def sound_contents(heard, size):
    # For each cell by itself the bit, as a tuple, that it may have held at first were it sound, or None.
    return [contents_at(heard, [cell], []) for cell in range(size)]


def fits(heard, sound, harms):
    cells = cells_of(harms)
    others = [contents for cell, contents in enumerate(sound) if cell not in cells]
    return None not in others and contents_at(heard, cells, harms) is not None


def fitting(test, size, orders, reads, kinds):
    look_at_test(test)
    look_at_orders(test, orders)
    heard = deeds_heard(test, size, orders, reads)
    if heard is None:
        return []
    asked = [[]]
    for kind in kinds:
        asked.extend([[harm] for harm in harms_on(kind, list(range(size)))])
    sound = sound_contents(heard, size)
    return sorted([harms for harms in asked if fits(heard, sound, harms)])


def contents_for(test, size, orders, reads, harms):
    look_at_test(test)
    look_at_harms(harms)
    look_at_orders(test, orders)
    heard = deeds_heard(test, size, orders, reads)
    cells = cells_of(harms)
    if heard is None or len([cell for cell in cells if cell >= size]) > 0:
        return None
    sound = sound_contents(heard, size)
    if not fits(heard, sound, harms):
        return None
    own = contents_at(heard, cells, harms)
    return [own[cells.index(cell)] if cell in cells else sound[cell][0] for cell in range(size)]
