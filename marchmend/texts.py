"""Tests as texts: written, and read back."""

from marchmend.errors import NoText
from marchmend.marches import MOST_IN_ELEMENT, MOST_IN_TEST, ORDERS, is_filled, look_at_test

PARTING = "; "
STEPS = {"r0": ("r", 0), "r1": ("r", 1), "w0": ("w", 0), "w1": ("w", 1)}


def written_element(element):
    words = [element[0]]
    for step in element[1]:
        words.append(step[0] + str(step[1]))
    return " ".join(words)


def written(test):
    look_at_test(test)
    return PARTING.join([written_element(element) for element in test])


def element_in(part):
    # Splitting at each single blank leaves a word without signs where there is one
    # blank too many; it is no step and no order, so such a part writes no element.
    words = part.split(" ")
    steps = [STEPS.get(word) for word in words[1:]]
    if words[0] in ORDERS and is_filled(steps, MOST_IN_ELEMENT) and None not in steps:
        return (words[0], steps)
    return None


def read(text):
    if not isinstance(text, str):
        raise NoText(0)
    test = []
    for number, part in enumerate(text.split(PARTING)):
        element = element_in(part)
        if element is None or number == MOST_IN_TEST:
            raise NoText(number)
        test.append(element)
    return test
