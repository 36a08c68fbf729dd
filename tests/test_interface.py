"""The names and arguments of the interface, and what holds for all of it."""

import copy
import inspect
import time
import unittest

from pourback import back, pours
from pourback.errors import PourError
from tests.listed import HALVES, LEFT, LONG_SHARES, RIGHT, SOME_PARTS

ARGUMENTS = {
    pours: {
        "are_parts": ["thing"],
        "is_share": ["thing"],
        "is_row": ["thing"],
        "behind": ["parts", "share", "row"],
        "all_behind": ["parts", "share", "row"],
    },
    back: {
        "rows_to": ["parts", "share", "many"],
        "fewest_to": ["parts", "share", "other"],
        "unseen": ["parts", "share", "row", "place", "other"],
    },
}
A_MOMENT = 1.0


def askings(parts, share, row):
    """Every question that these modules answer, asked once."""
    return (
        pours.are_parts(parts),
        pours.is_share(share),
        pours.is_row(row),
        pours.behind(parts, share, row),
        pours.all_behind(parts, share, row),
        back.rows_to(parts, share, 40),
        back.fewest_to(parts, share, (1, 2)),
        back.fewest_to(parts, (1, 2), share),
        back.unseen(parts, share, row, len(row) - 1, share),
        back.unseen(parts, share, row, 0, share),
    )


class Interface(unittest.TestCase):
    def test_names_and_arguments(self):
        for module, functions in ARGUMENTS.items():
            for name, arguments in functions.items():
                with self.subTest(name=name):
                    function = getattr(module, name)
                    self.assertEqual(function.__module__, module.__name__)
                    self.assertEqual(list(inspect.signature(function).parameters), arguments)


class Whole(unittest.TestCase):
    def test_the_same_asked_again_is_answered_the_same(self):
        first = askings(HALVES, (1, 3), (LEFT, RIGHT))
        askings(SOME_PARTS[3], (2, 7), (RIGHT, RIGHT))
        self.assertEqual(askings(HALVES, (1, 3), (LEFT, RIGHT)), first)

    def test_what_is_refused_is_not_changed(self):
        wrong = [[[1, 2], [1, 2]], [1, 2], [RIGHT, LEFT], [0], [1, 2]]
        kept = copy.deepcopy(wrong)
        right = (HALVES, (1, 2), (RIGHT, LEFT), 0, (1, 2))
        for at in range(5):
            handed = list(right)
            handed[at] = wrong[at]
            with self.assertRaises(PourError):
                back.unseen(*handed)
        self.assertEqual(wrong, kept)

    def test_within_a_moment_at_the_bounds(self):
        rows = ((RIGHT,) * 40, (LEFT,) * 40, (RIGHT, LEFT) * 20, (LEFT, LEFT, RIGHT, LEFT) * 10)
        for parts in SOME_PARTS:
            for share in LONG_SHARES + ((0, 1), (1, 1), (1, 3)):
                for row in rows:
                    start = time.perf_counter()
                    askings(parts, share, row)
                    self.assertLess(time.perf_counter() - start, A_MOMENT)


if __name__ == "__main__":
    unittest.main()
