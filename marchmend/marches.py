"""Tests that go over a memory: what is one, whether it is sure, and how long it is."""

from marchmend.errors import NoTest, NotSure

ORDERS = ("up", "down", "any")
LETTERS = ("r", "w")
MOST_IN_TEST = 8
MOST_IN_ELEMENT = 6


def is_whole(thing):
    # Python counts True and False among its ints; here they are no numbers.
    return isinstance(thing, int) and not isinstance(thing, bool)


def is_bit(thing):
    return is_whole(thing) and thing in (0, 1)


def is_one_of(thing, words):
    # The kind is asked first: a thing of another kind may answer == in a way of its own.
    return isinstance(thing, str) and thing in words


def is_pair(thing):
    return isinstance(thing, tuple) and len(thing) == 2


def is_filled(thing, most):
    return isinstance(thing, list) and len(thing) > 0 and len(thing) <= most


def is_step(thing):
    return is_pair(thing) and is_one_of(thing[0], LETTERS) and is_bit(thing[1])


def is_framed(thing):
    # An element but for what its steps are: a fault here names no step, whatever they are.
    return is_pair(thing) and is_one_of(thing[0], ORDERS) and is_filled(thing[1], MOST_IN_ELEMENT)


def look_at_element(number, thing):
    if not is_framed(thing):
        raise NoTest(number, None)
    for place, step in enumerate(thing[1]):
        if not is_step(step):
            raise NoTest(number, place)


def look_at_test(thing):
    if not is_filled(thing, MOST_IN_TEST):
        raise NoTest(None, None)
    for number, element in enumerate(thing):
        look_at_element(number, element)


def steps_of(test):
    steps = []
    for element in test:
        steps.extend(element[1])
    return steps


def held_behind(held, steps):
    # What a sound cell holds behind the steps; held may be None, where it is not known.
    for step in steps:
        if step[0] == "w":
            held = step[1]
    return held


def is_sure(test):
    # In a sound memory no cell acts on another, and each gets all steps in the order
    # of the test, whatever orders are taken: so one cell stands for all of them.
    look_at_test(test)
    known = None
    for step in steps_of(test):
        if step[0] == "w":
            known = step[1]
        elif step[1] != known:
            return False
    return True


def look_at_sure(test):
    if not is_sure(test):
        raise NotSure("a sound memory may read another bit than is to come")


def length_of(test):
    look_at_test(test)
    return len(steps_of(test))
