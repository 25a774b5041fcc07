"""What several test files draw on."""

import itertools
import unittest

import marchmend.errors

STEPS = [("r", 0), ("r", 1), ("w", 0), ("w", 1)]
ORDERS = ["up", "down", "any"]
ONE_CELL = ("stuck", "slow", "forgets", "misreads", "nowhere")


class Odd:
    """Says that it is equal to everything, so that only its kind gives it away."""

    def __eq__(self, other):
        return True

    __hash__ = None


def step_lists(most):
    return [list(steps) for length in range(1, most + 1) for steps in itertools.product(STEPS, repeat=length)]


def small_tests():
    """All tests of one or two elements of one or two steps."""
    framed = [(order, steps) for order in ORDERS for steps in step_lists(2)]
    for length in (1, 2):
        for chosen in itertools.product(framed, repeat=length):
            yield [(order, list(steps)) for order, steps in chosen]


def things_that_are_no_test():
    """Of any kind, each refused as a whole: no list, none in it, or too many."""
    return [None, True, False, 0, 1, -1, 8, 10 ** 59, "", "any w0", "up", {}, {0: ("any", [("w", 0)])}, (),
            (("any", [("w", 0)]),), ("any", [("w", 0)]), set(), frozenset(), b"any w0", range(2), object(), Odd(),
            len, list, [], nine_times()]


def nine_times():
    return [("any", [("w", 0)]) for k in range(9)]


def eight_by_six():
    return [(ORDERS[k % 3], [STEPS[(k + j) % 4] for j in range(6)]) for k in range(8)]


def march_c():
    return [("any", [("w", 0)]),
            ("up", [("r", 0), ("w", 1)]), ("up", [("r", 1), ("w", 0)]),
            ("down", [("r", 0), ("w", 1)]), ("down", [("r", 1), ("w", 0)]),
            ("any", [("r", 0)])]


def of_any_kind():
    """Things that are no number from 0 to 64, no bit, no harm, no contents and no orders that fit anything."""
    return [None, True, False, -1, 65, 10 ** 59, "", "0", "up", "and", "stuck", {}, {0: 1}, {"up": "up"}, (), (0, 1),
            ("up",), set(), frozenset(), b"0", range(2), object(), Odd(), len, list, [None], [[]]]


def one_of_each_sort():
    return [("stuck", 0, 1), ("slow", 0, 1), ("forgets", 0, 1), ("misreads", 0, 1), ("turns", 0, 1, 1),
            ("sets", 0, 1, 1, 0), ("keeps", 0, 1, 1, 0), ("nowhere", 0, 1), ("other", 0, 1), ("both", 0, 1, "and")]


def all_on(cells):
    """Every harm on these cells, told apart from the program."""
    found = []
    for a in cells:
        for v in (0, 1):
            found += [(word, a, v) for word in ONE_CELL]
        for b in cells:
            if a != b:
                found += [("other", a, b), ("both", a, b, "and"), ("both", a, b, "or")]
                found += [("turns", a, b, 0), ("turns", a, b, 1)]
                found += [(word, a, b, u, v) for word in ("sets", "keeps") for u in (0, 1) for v in (0, 1)]
    return found


class Case(unittest.TestCase):
    def refused(self, error, asker, *given):
        """Refused with just this error; told is the error."""
        with self.assertRaises(error) as caught:
            asker(*given)
        self.assertIs(error, caught.exception.__class__)
        self.assertIsInstance(caught.exception, marchmend.errors.MarchError)
        self.assertIsInstance(caught.exception, ValueError)
        for name, other in vars(marchmend.errors).items():
            if isinstance(other, type) and other not in (error, marchmend.errors.MarchError):
                self.assertNotIsInstance(caught.exception, other, name)
        return caught.exception
