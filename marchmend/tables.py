"""Tables by which harms are told: a small checker of them, whoever wrote them."""

from marchmend.errors import NoHarms
from marchmend.harms import look_at_harms
from marchmend.machine import deeds, little_memory, stuck_bit, taken_for
from marchmend.marches import is_bit, look_at_sure, look_at_test


def look_at_some(harms):
    if len(harms) == 0:
        raise NoHarms(None)


def look_at_asked(test, harms):
    look_at_test(test)
    look_at_harms(harms)
    look_at_sure(test)
    look_at_some(harms)


def are_contents(memory, thing):
    if not isinstance(thing, tuple) or len(thing) != memory.span or not all([is_bit(part) for part in thing]):
        return False
    return all([stuck_bit(memory.harms, cell) in (None, bit) for cell, bit in enumerate(thing)])


def is_list_of_contents(memory, thing):
    if not isinstance(thing, list) or not all([are_contents(memory, part) for part in thing]):
        return False
    return len(set(thing)) == len(thing)


def is_column(memory, element, order, thing):
    if order not in taken_for(element[0]):
        return thing is None
    if not isinstance(thing, list) or len(thing) != len(element[1]) * memory.span:
        return False
    return all([is_list_of_contents(memory, part) for part in thing])


def is_row(memory, element, thing):
    if not isinstance(thing, tuple) or len(thing) != 3 or not is_list_of_contents(memory, thing[0]):
        return False
    return is_column(memory, element, "up", thing[1]) and is_column(memory, element, "down", thing[2])


def is_table(memory, test, thing):
    if not isinstance(thing, list) or len(thing) != len(test):
        return False
    return all([is_row(memory, element, row) for element, row in zip(test, thing)])


def has_all(wide, narrow):
    return all([contents in wide for contents in narrow])


def is_led(memory, address, step, ahead, behind):
    # What shows something leads nowhere: nothing need stand for it behind the step.
    led = [memory.done(contents, address, step) for contents in ahead]
    return has_all(behind, [contents for contents in led if contents is not None])


def is_closed(memory, order, steps, column, behind):
    lists = column + [behind]
    for number, deed in enumerate(deeds(order, steps, memory.span)):
        if not is_led(memory, deed[0], deed[2], lists[number], lists[number + 1]):
            return False
    return True


def holds_good(memory, element, row, behind):
    for order in taken_for(element[0]):
        column = row[1] if order == "up" else row[2]
        if not has_all(column[0], row[0]) or not is_closed(memory, order, element[1], column, behind):
            return False
    return True


def lets_table(test, harms, thing):
    look_at_asked(test, harms)
    memory = little_memory(harms)
    if not is_table(memory, test, thing) or not has_all(thing[0][0], list(memory.firsts())):
        return False
    # Behind the last element nothing may come.
    aheads = [row[0] for row in thing] + [[]]
    for number, element in enumerate(test):
        if not holds_good(memory, element, thing[number], aheads[number + 1]):
            return False
    return True
