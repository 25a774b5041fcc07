"""Tests run on a memory: what is read, and what shows first."""

from marchmend.errors import NoOrders
from marchmend.machine import deeds
from marchmend.marches import is_one_of, look_at_test
from marchmend.memory import Memory

TAKEN = ("up", "down")


def is_order_for(element, thing):
    return is_one_of(thing, TAKEN) and element[0] in ("any", thing)


def are_orders(test, thing):
    if not isinstance(thing, list) or len(thing) != len(test):
        return False
    return all([is_order_for(element, order) for element, order in zip(test, thing)])


def look_at_orders(test, thing):
    if not are_orders(test, thing):
        raise NoOrders("no list of up or down for each element, its own where that isn't any")


def all_reads(test, memory, orders):
    told = []
    for number, element in enumerate(test):
        for address, place, step in deeds(orders[number], element[1], memory.size()):
            if step[0] == "w":
                memory.write(address, step[1])
            else:
                told.append((number, address, place, memory.read(address)))
    return told


def run_on(test, memory, orders):
    look_at_test(test)
    look_at_orders(test, orders)
    return [told[3] for told in all_reads(test, memory, orders)]


def reads_of(test, size, harms, contents, orders):
    look_at_test(test)
    memory = Memory(size, harms, contents)
    look_at_orders(test, orders)
    return all_reads(test, memory, orders)


def first_shown(test, size, harms, contents, orders):
    for number, address, place, bit in reads_of(test, size, harms, contents, orders):
        if bit != test[number][1][place][1]:
            return (number, address, place)
    return None
