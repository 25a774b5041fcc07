"""What several test files draw on."""

import itertools

STEPS = [("r", 0), ("r", 1), ("w", 0), ("w", 1)]
ORDERS = ["up", "down", "any"]


class Odd:
    """Says that it is equal to everything, so that only its kind gives it away."""

    def __eq__(self, other):
        return True

    __hash__ = None


def step_lists(most):
    return [list(steps) for length in range(1, most + 1) for steps in itertools.product(STEPS, repeat=length)]


def small_tests():
    """All tests of one or two elements of one or two steps."""
    framed = [(order, steps) for order in ORDERS for steps in step_lists(2)]
    for length in (1, 2):
        for chosen in itertools.product(framed, repeat=length):
            yield [(order, list(steps)) for order, steps in chosen]


def things_that_are_no_test():
    """Of any kind, each refused as a whole: no list, none in it, or too many."""
    return [None, True, False, 0, 1, -1, 8, 10 ** 59, "", "any w0", "up", {}, {0: ("any", [("w", 0)])}, (),
            (("any", [("w", 0)]),), ("any", [("w", 0)]), set(), frozenset(), b"any w0", range(2), object(), Odd(),
            len, list, [], nine_times()]


def nine_times():
    return [("any", [("w", 0)]) for k in range(9)]


def eight_by_six():
    return [(ORDERS[k % 3], [STEPS[(k + j) % 4] for j in range(6)]) for k in range(8)]


def march_c():
    return [("any", [("w", 0)]),
            ("up", [("r", 0), ("w", 1)]), ("up", [("r", 1), ("w", 0)]),
            ("down", [("r", 0), ("w", 1)]), ("down", [("r", 1), ("w", 0)]),
            ("any", [("r", 0)])]
