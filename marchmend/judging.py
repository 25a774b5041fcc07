"""The judge: whether harms are told by a test, for all sizes, places, first contents and orders at once."""

from marchmend.machine import deeds, little_memory, taken_for
from marchmend.tables import look_at_asked


def led(memory, standing, address, step):
    found = [memory.done(contents, address, step) for contents in standing]
    return sorted(set([contents for contents in found if contents is not None]))


def lists_of(memory, order, steps, ahead):
    # What stands ahead of each step, and last what stands behind them all.
    lists = [list(ahead)]
    for address, place, step in deeds(order, steps, memory.span):
        lists.append(led(memory, lists[-1], address, step))
    return lists


def table_of(memory, test):
    table = []
    ahead = sorted(memory.firsts())
    for element in test:
        columns = {"up": None, "down": None}
        behind = []
        for order in taken_for(element[0]):
            lists = lists_of(memory, order, element[1], ahead)
            behind.extend(lists.pop())
            columns[order] = lists
        table.append((ahead, columns["up"], columns["down"]))
        ahead = sorted(set(behind))
    return table


def ways_behind(memory, element, ways):
    behind = {}
    for order in taken_for(element[0]):
        for contents in ways:
            held = memory.gone_over(contents, order, element[1])
            if held is not None and held not in behind:
                behind[held] = (ways[contents][0], ways[contents][1] + [order])
    return behind


def ways_through(memory, test):
    # All that may stand at the end, nothing having shown, each with first contents and orders that lead to it.
    firsts = memory.firsts()
    ways = {}
    for held in firsts:
        ways[held] = (firsts[held], [])
    for element in test:
        ways = ways_behind(memory, element, ways)
    return list(ways.values())


def judged(test, harms):
    look_at_asked(test, harms)
    memory = little_memory(harms)
    ways = ways_through(memory, test)
    if len(ways) == 0:
        return ("told", table_of(memory, test))
    way = ways[0]
    return ("let", way[0], way[1])
