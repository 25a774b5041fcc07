"""What several test files draw on."""

import itertools
import unittest

import marchmend.errors

STEPS = [("r", 0), ("r", 1), ("w", 0), ("w", 1)]
ORDERS = ["up", "down", "any"]
ONE_CELL = ("stuck", "slow", "forgets", "misreads", "nowhere")
BY_KIND = {
    "stuck": [("stuck", 0, 0), ("stuck", 0, 1)],
    "slow": [("slow", 0, 0), ("slow", 0, 1)],
    "forgets": [("forgets", 0, 0), ("forgets", 0, 1)],
    "misreads": [("misreads", 0, 0), ("misreads", 0, 1)],
    "turns": [("turns", 0, 1, 0), ("turns", 0, 1, 1), ("turns", 1, 0, 0), ("turns", 1, 0, 1)],
    "sets": [("sets", 0, 1, 0, 0), ("sets", 0, 1, 0, 1), ("sets", 0, 1, 1, 0), ("sets", 0, 1, 1, 1),
             ("sets", 1, 0, 0, 0), ("sets", 1, 0, 0, 1), ("sets", 1, 0, 1, 0), ("sets", 1, 0, 1, 1)],
    "keeps": [("keeps", 0, 1, 0, 0), ("keeps", 0, 1, 0, 1), ("keeps", 0, 1, 1, 0), ("keeps", 0, 1, 1, 1),
              ("keeps", 1, 0, 0, 0), ("keeps", 1, 0, 0, 1), ("keeps", 1, 0, 1, 0), ("keeps", 1, 0, 1, 1)],
    "nowhere": [("nowhere", 0, 0), ("nowhere", 0, 1)],
    "other": [("other", 0, 1), ("other", 1, 0)],
    "both": [("both", 0, 1, "and"), ("both", 0, 1, "or"), ("both", 1, 0, "and"), ("both", 1, 0, "or")],
}


class Odd:
    """Says that it is equal to everything, so that only its kind gives it away."""

    def __eq__(self, other):
        return True

    __hash__ = None


def step_lists(most):
    return [list(steps) for length in range(1, most + 1) for steps in itertools.product(STEPS, repeat=length)]


def small_tests():
    """All tests of one or two elements of one or two steps."""
    framed = [(order, steps) for order in ORDERS for steps in step_lists(2)]
    for length in (1, 2):
        for chosen in itertools.product(framed, repeat=length):
            yield [(order, list(steps)) for order, steps in chosen]


def things_that_are_no_test():
    """Of any kind, each refused as a whole: no list, none in it, or too many."""
    return [None, True, False, 0, 1, -1, 8, 10 ** 59, "", "any w0", "up", {}, {0: ("any", [("w", 0)])}, (),
            (("any", [("w", 0)]),), ("any", [("w", 0)]), set(), frozenset(), b"any w0", range(2), object(), Odd(),
            len, list, [], nine_times()]


def nine_times():
    return [("any", [("w", 0)]) for k in range(9)]


def eight_by_six():
    return [(ORDERS[k % 3], [STEPS[(k + j) % 4] for j in range(6)]) for k in range(8)]


def march_c():
    return [("any", [("w", 0)]),
            ("up", [("r", 0), ("w", 1)]), ("up", [("r", 1), ("w", 0)]),
            ("down", [("r", 0), ("w", 1)]), ("down", [("r", 1), ("w", 0)]),
            ("any", [("r", 0)])]


def of_any_kind():
    """Things that are no number from 0 to 64, no bit, no harm, no contents and no orders that fit anything."""
    return [None, True, False, -1, 65, 10 ** 59, "", "0", "up", "and", "stuck", {}, {0: 1}, {"up": "up"}, (), (0, 1),
            ("up",), set(), frozenset(), b"0", range(2), object(), Odd(), len, list, [None], [[]]]


def one_of_each_sort():
    return [("stuck", 0, 1), ("slow", 0, 1), ("forgets", 0, 1), ("misreads", 0, 1), ("turns", 0, 1, 1),
            ("sets", 0, 1, 1, 0), ("keeps", 0, 1, 1, 0), ("nowhere", 0, 1), ("other", 0, 1), ("both", 0, 1, "and")]


def all_on(cells):
    """Every harm on these cells, told apart from the program."""
    found = []
    for a in cells:
        for v in (0, 1):
            found += [(word, a, v) for word in ONE_CELL]
        for b in cells:
            if a != b:
                found += [("other", a, b), ("both", a, b, "and"), ("both", a, b, "or")]
                found += [("turns", a, b, 0), ("turns", a, b, 1)]
                found += [(word, a, b, u, v) for word in ("sets", "keeps") for u in (0, 1) for v in (0, 1)]
    return found


def drawn_broken(source, count, span=12):
    """So many broken cells (or all there are), drawn in one of several ways: strewn, in a corner, in rows and lines."""
    rows, lines = range(span), range(span)
    way = source.randrange(3)
    if way == 1:
        while len(rows) * len(lines) > max(2 * count, 1):
            rows, lines = (rows[1:], lines) if source.random() < 0.5 else (rows, lines[1:])
    cells = [(row, line) for row in rows for line in lines]
    if way == 2:
        heavy = source.sample(range(span), span // 3), source.sample(range(span), span // 3)
        some = [cell for cell in cells if cell[0] in heavy[0] or cell[1] in heavy[1]]
        cells = some if len(some) >= count else cells
    return sorted(source.sample(cells, min(count, len(cells))))


class Case(unittest.TestCase):
    def refused(self, error, asker, *given):
        """Refused with just this error; told is the error."""
        with self.assertRaises(error) as caught:
            asker(*given)
        self.assertIs(error, caught.exception.__class__)
        self.assertIsInstance(caught.exception, marchmend.errors.MarchError)
        self.assertIsInstance(caught.exception, ValueError)
        for name, other in vars(marchmend.errors).items():
            if isinstance(other, type) and other not in (error, marchmend.errors.MarchError):
                self.assertNotIsInstance(caught.exception, other, name)
        return caught.exception
