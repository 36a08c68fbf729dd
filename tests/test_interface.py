"""The names and arguments of the interface, and what holds for all of it."""

import copy
import inspect
import time
import unittest

from pourback import back, kept, near, orders, pours
from pourback.errors import PourError
from tests.listed import HALVES, LEFT, LONG_SHARES, RIGHT, SOME_PARTS, TWENTY_NINES

ARGUMENTS = {
    pours: {
        "are_parts": ["thing"],
        "is_share": ["thing"],
        "is_row": ["thing"],
        "behind": ["parts", "share", "row"],
        "all_behind": ["parts", "share", "row"],
    },
    back: {
        "rows_to": ["parts", "share", "many"],
        "fewest_to": ["parts", "share", "other"],
        "unseen": ["parts", "share", "row", "place", "other"],
    },
    orders: {
        "how_many": ["many", "lefts"],
        "row_of": ["many", "lefts", "number"],
        "number_of": ["row", "any_lefts"],
        "at_most": ["parts", "share", "many", "lefts", "wished"],
        "nearest": ["parts", "share", "many", "lefts", "wished"],
    },
    near: {
        "near_enough": ["parts", "share", "wished", "distance"],
        "goes_to": ["parts", "row"],
        "times_till": ["parts", "share", "row", "distance"],
    },
    kept: {"Kept": ["parts", "share"]},
}
KEPT_METHODS = {
    "pour": ["self", "pour"],
    "back": ["self"],
    "share": ["self"],
    "pours": ["self"],
    "poured": ["self"],
    "__len__": ["self"],
    "__eq__": ["self", "other"],
}
A_MOMENT = 1.0
DISTANCE = (1, TWENTY_NINES)


def askings(parts, share, row):
    """Every question that these modules answer, asked once."""
    return (
        pours.are_parts(parts),
        pours.is_share(share),
        pours.is_row(row),
        pours.behind(parts, share, row),
        pours.all_behind(parts, share, row),
        back.rows_to(parts, share, 40),
        back.fewest_to(parts, share, (1, 2)),
        back.fewest_to(parts, (1, 2), share),
        back.unseen(parts, share, row, len(row) - 1, share),
        back.unseen(parts, share, row, 0, share),
        orders.how_many(40, None),
        orders.how_many(40, 20),
        orders.row_of(40, None, 2**39 + 1),
        orders.row_of(40, 20, 10**11),
        orders.number_of(row, True),
        orders.number_of(row, False),
        orders.at_most(parts, share, 40, None, (1, 2)),
        orders.at_most(parts, (1, 2), 40, 20, share),
        orders.nearest(parts, share, 40, None, (1, 2)),
        orders.nearest(parts, (1, 2), 40, 20, share),
        near.near_enough(parts, share, (1, 2), DISTANCE),
        near.near_enough(parts, (1, 3), share, DISTANCE),
        near.goes_to(parts, row),
        near.times_till(parts, share, row, DISTANCE),
        near.times_till(parts, share, row[:1], DISTANCE),
        tubs_told(parts, share, row),
    )


def tubs_told(parts, share, row):
    """What is told of tubs in which a hundred pours were made, and some taken back."""
    tubs = kept.Kept(parts, share)
    for pour in (row * 100)[:100]:
        tubs.pour(pour)
    told = (tubs.share(), tubs.pours(), tubs.poured(), len(tubs))
    for pour in row:
        tubs.back()
    return told + (tubs.share(), tubs.pours(), tubs.poured(), len(tubs))


class Interface(unittest.TestCase):
    def test_names_and_arguments(self):
        for module, functions in ARGUMENTS.items():
            for name, arguments in functions.items():
                with self.subTest(name=name):
                    function = getattr(module, name)
                    self.assertEqual(function.__module__, module.__name__)
                    self.assertEqual(list(inspect.signature(function).parameters), arguments)

    def test_methods_stand_in_the_class_itself(self):
        for name, arguments in KEPT_METHODS.items():
            with self.subTest(name=name):
                self.assertIn(name, vars(kept.Kept))
                self.assertEqual(list(inspect.signature(vars(kept.Kept)[name]).parameters), arguments)


class Whole(unittest.TestCase):
    def test_the_same_asked_again_is_answered_the_same(self):
        first = askings(HALVES, (1, 3), (LEFT, RIGHT))
        askings(SOME_PARTS[3], (2, 7), (RIGHT, RIGHT))
        self.assertEqual(askings(HALVES, (1, 3), (LEFT, RIGHT)), first)

    def test_what_is_refused_is_not_changed(self):
        right = {
            back.unseen: (HALVES, (1, 2), (RIGHT, LEFT), 0, (1, 2)),
            orders.row_of: (2, 1, 1),
            orders.number_of: ((RIGHT, LEFT), True),
            orders.nearest: (HALVES, (1, 2), 2, 1, (1, 4)),
            near.near_enough: (HALVES, (1, 2), (1, 4), (1, 8)),
            near.times_till: (HALVES, (1, 2), (RIGHT, LEFT), (1, 8)),
            kept.Kept: (HALVES, (1, 2)),
        }
        things = ([[1, 2], [1, 2]], [1, 2], [RIGHT, LEFT], [0], [], [[[None]]])
        wrong = copy.deepcopy(things)
        for asked, handed in right.items():
            for at in range(len(handed)):
                for thing in wrong:
                    with self.assertRaises(PourError):
                        asked(*handed[:at], thing, *handed[at + 1:])
        self.assertEqual(wrong, things)

    def test_within_a_moment_at_the_bounds(self):
        rows = ((RIGHT,) * 40, (LEFT,) * 40, (RIGHT, LEFT) * 20, (LEFT, LEFT, RIGHT, LEFT) * 10)
        for parts in SOME_PARTS:
            for share in LONG_SHARES + ((0, 1), (1, 1), (1, 3)):
                for row in rows:
                    start = time.perf_counter()
                    askings(parts, share, row)
                    self.assertLess(time.perf_counter() - start, A_MOMENT)


if __name__ == "__main__":
    unittest.main()
