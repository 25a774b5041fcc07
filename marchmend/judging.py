"""The judge: whether harms are told by a test, for all sizes, places, first contents and orders at once."""

from marchmend.machine import deeds, little_memory, taken_for
from marchmend.tables import look_at_asked


def led(memory, standing, address, step):
    found = [memory.done(contents, address, step) for contents in standing]
    return sorted(set([contents for contents in found if contents is not None]))


def lists_of(memory, order, steps, ahead):
    # What stands ahead of each step, and last what stands behind them all.
    lists = [list(ahead)]
    for address, place, step in deeds(order, steps, memory.span):
        lists.append(led(memory, lists[-1], address, step))
    return lists


def table_of(memory, test):
    table = []
    ahead = sorted(memory.firsts())
    for element in test:
        columns = {"up": None, "down": None}
        behind = []
        for order in taken_for(element[0]):
            lists = lists_of(memory, order, element[1], ahead)
            behind.extend(lists.pop())
            columns[order] = lists
        table.append((ahead, columns["up"], columns["down"]))
        ahead = sorted(set(behind))
    return table


def first_ways(memory):
    # Ways tell of all that may stand, nothing having shown: of each, first contents and orders that lead to it.
    firsts = memory.firsts()
    ways = {}
    for held in firsts:
        ways[held] = (firsts[held], [])
    return ways


def ways_behind(ways, order, goes):
    # goes tells what comes of what stands by an order that is taken, None where something shows.
    behind = {}
    for taken in taken_for(order):
        for standing in ways:
            led_there = goes(standing, taken)
            if led_there is not None and led_there not in behind:
                behind[led_there] = (ways[standing][0], ways[standing][1] + [taken])
    return behind


def ways_over(memory, element, ways):
    return ways_behind(ways, element[0], lambda contents, order: memory.gone_over(contents, order, element[1]))


def one_of_ways(ways):
    return list(ways.values())[0]


def judged(test, harms):
    look_at_asked(test, harms)
    memory = little_memory(harms)
    ways = first_ways(memory)
    for element in test:
        ways = ways_over(memory, element, ways)
    if len(ways) == 0:
        return ("told", table_of(memory, test))
    way = one_of_ways(ways)
    return ("let", way[0], way[1])
