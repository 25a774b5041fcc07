"""Stands: what may stand in the little memories of all harms of some kinds, nothing having shown."""

from marchmend.kinds import harms_of
from marchmend.machine import little_memory
from marchmend.marches import MOST_IN_ELEMENT, held_behind, is_bit, is_pair, is_whole
from marchmend.running import TAKEN
from marchmend.tables import are_contents


def memories_of(kinds):
    memories = []
    for kind in kinds:
        memories.extend([little_memory([harm]) for harm in harms_of(kind)])
    return memories


def steps_from(known):
    writes = [("w", 0), ("w", 1)]
    return writes if known is None else [("r", known)] + writes


def step_lists(known, most):
    # All lists of steps, at most so many in each, whose reads are sure by known, the shorter ones first.
    found = []
    longest = [[]]
    for turn in range(min(most, MOST_IN_ELEMENT)):
        longer = []
        for steps in longest:
            longer.extend([steps + [step] for step in steps_from(held_behind(known, steps))])
        found.extend(longer)
        longest = longer
    return found


def leading_from(stand, most):
    found = []
    for steps in step_lists(stand[0], most):
        found.extend([(order, steps) for order in TAKEN])
    return found


def is_over(stand):
    return all([len(standing) == 0 for standing in stand[1]])


class Stands:
    # Few lists come up in very many stands, so what an element makes of each of them is kept.
    def __init__(self, kinds):
        self.memories = memories_of(kinds)
        self.found = {}

    def first(self):
        return (None, tuple([tuple(sorted(memory.firsts())) for memory in self.memories]))

    def list_behind(self, number, standing, element):
        led = [self.memories[number].gone_over(contents, element[0], element[1]) for contents in standing]
        return tuple(sorted(set([contents for contents in led if contents is not None])))

    def behind(self, stand, element):
        found = self.found.setdefault((element[0], tuple(element[1])), {})
        lists = []
        for place in enumerate(stand[1]):
            if place not in found:
                found[place] = self.list_behind(place[0], place[1], element)
            lists.append(found[place])
        return (held_behind(stand[0], element[1]), tuple(lists))


def first_stand(kinds):
    return Stands(kinds).first()


def led_to(kinds, stand, element):
    return Stands(kinds).behind(stand, element)


def is_list_for(memory, thing):
    if not isinstance(thing, tuple) or not all([are_contents(memory, part) for part in thing]):
        return False
    return list(thing) == sorted(set(thing))


def is_stand(stands, thing):
    if not is_pair(thing) or not (thing[0] is None or is_bit(thing[0])):
        return False
    if not isinstance(thing[1], tuple) or len(thing[1]) != len(stands.memories):
        return False
    return all([is_list_for(memory, part) for memory, part in zip(stands.memories, thing[1])])


def is_row(stands, thing):
    return is_pair(thing) and is_whole(thing[1]) and thing[1] >= 0 and is_stand(stands, thing[0])


def are_numbers(stands, thing):
    if not isinstance(thing, list) or not all([is_row(stands, row) for row in thing]):
        return False
    return len(dict(thing)) == len(thing)


def holds_good(stands, length, numbers, stand):
    number = numbers[stand]
    if is_over(stand) and number < length:
        return False
    for element in leading_from(stand, length - 1 - number):
        behind = numbers.get(stands.behind(stand, element))
        if behind is None or behind > number + len(element[1]):
            return False
    return True


def lets_numbers(kinds, length, thing):
    stands = Stands(kinds)
    if not are_numbers(stands, thing):
        return False
    numbers = dict(thing)
    if numbers.get(stands.first()) != 0:
        return False
    for stand in numbers:
        if not holds_good(stands, length, numbers, stand):
            return False
    return True
