"""Tests that leave what was there: their bits are told by what a cell held at first."""

from marchmend.errors import NotSure
from marchmend.harms import look_at_harms
from marchmend.judging import one_of_ways, ways_behind
from marchmend.machine import all_contents, deeds, doings_of, little_memory
from marchmend.marches import held_behind, look_at_sure, look_at_test, steps_of
from marchmend.memory import Memory
from marchmend.running import look_at_orders
from marchmend.tables import look_at_some


def turned(bit, by):
    return bit if by == 0 else 1 - bit


def only_writes(element):
    return all([step[0] == "w" for step in element[1]])


def steps_by(steps, first):
    return [(step[0], turned(step[1], first)) for step in steps]


def leaves(test):
    return held_behind(0, steps_of(test)) == 0


def leaving_of(test):
    look_at_sure(test)
    if not only_writes(test[0]):
        raise NotSure("the first element has a read")
    if len(test) == 1:
        raise NotSure("without the first element nothing is left")
    first = held_behind(None, test[0][1])
    made = [(element[0], steps_by(element[1], first)) for element in test[1:]]
    return made if leaves(made) else made + [("any", [("r", 1), ("w", 0)])]


def leaves_all(test):
    look_at_test(test)
    return leaves(test)


def shown_by(test, memory, contents, orders):
    # All addresses at which something shows; reads are held against the first one there.
    heard = {}
    shown = []
    for number, element in enumerate(test):
        for address, place, step in deeds(orders[number], element[1], memory.size()):
            if step[0] == "w":
                memory.write(address, turned(contents[address], step[1]))
            else:
                bit = turned(memory.read(address), step[1])
                if heard.setdefault(address, bit) != bit:
                    shown.append(address)
    return shown


def leaving_shown(test, size, harms, contents, orders):
    look_at_test(test)
    memory = Memory(size, harms, contents)
    look_at_orders(test, orders)
    return min(shown_by(test, memory, contents, orders), default=None)


def read_behind(memory, state, address, turn):
    # Where nothing was read as yet, either bit may be; later the same one has to be.
    heard = state[2]
    for bit in (0, 1) if heard[address] is None else (heard[address],):
        held = memory.done(state[1], address, ("r", turned(bit, turn)))
        if held is not None:
            return (state[0], held, heard[:address] + (bit,) + heard[address + 1:])
    return None


def state_behind(memory, state, order, steps):
    # A state is (contents of which the memory was made, what it holds, what was read at each address).
    for address, step in doings_of(order, steps, memory.span):
        if step[0] == "r":
            state = read_behind(memory, state, address, step[1])
        else:
            bit = turned(state[0][address], step[1])
            state = (state[0], memory.done(state[1], address, ("w", bit)), state[2])
        if state is None:
            return None
    return state


def ways_left(memory, element, ways):
    return ways_behind(ways, element[0], lambda state, order: state_behind(memory, state, order, element[1]))


def leaving_judged(test, harms):
    look_at_test(test)
    look_at_harms(harms)
    look_at_some(harms)
    memory = little_memory(harms)
    ways = {}
    for contents in all_contents(memory.span):
        ways[(contents, memory.made_of(contents), (None,) * memory.span)] = (contents, [])
    for element in test:
        ways = ways_left(memory, element, ways)
    if len(ways) == 0:
        return ("told", None)
    way = one_of_ways(ways)
    return ("let", way[0], way[1])
