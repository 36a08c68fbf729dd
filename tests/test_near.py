import unittest
from fractions import Fraction
from itertools import product

from pourback.errors import NoDistance, NoParts, NoRow, NoShare
from pourback.near import goes_to, near_enough, times_till
from tests.listed import (
    HALVES,
    LEAST_OF_TWENTY_ONE,
    LEFT,
    LONG_SHARES,
    NARROW,
    NOTHING,
    RIGHT,
    SOME_PARTS,
    SOME_SHARES,
    THIRDS,
    TWELFTHS,
    TWENTY_NINES,
    WIDE,
    WIDEST,
    all_rows,
    as_pair,
    end_of,
    listed_nearest,
)

FEW = 5
SOME_DISTANCES = ((1, 1), (1, 2), (1, 7), (1, 12), (1, 100), (1, 1000), (1, TWENTY_NINES))
LEAST_DISTANCE = (1, TWENTY_NINES)
LONG_ROWS = (
    (RIGHT,) * 40,
    (LEFT,) * 40,
    (RIGHT, LEFT) * 20,
    (LEFT,) + (RIGHT,) * 39,
    (LEFT, LEFT, RIGHT, LEFT, RIGHT) * 8,
)


def listed_near_enough(parts, share, wished, distance):
    """The row of the fewest pours, by trying all rows of a few; None where more are wanted."""
    for many in range(FEW + 1):
        row, far = listed_nearest(parts, share, many, None, wished)
        if Fraction(*far) <= Fraction(*distance):
            return row
    return None


def far_behind(parts, share, row, times):
    """How far from the told share one is when the row was poured so many times."""
    worth = Fraction(*share)
    for _ in range(times):
        worth = end_of(parts, as_pair(worth), row)
    return abs(worth - Fraction(*goes_to(parts, row)))


def listed_times(parts, share, row, distance):
    """The least number of times, by pouring again and again."""
    goal = Fraction(*goes_to(parts, row))
    worth, times = Fraction(*share), 0
    while abs(worth - goal) > Fraction(*distance):
        worth = end_of(parts, as_pair(worth), row)
        times += 1
    return times


class NearEnough(unittest.TestCase):
    def test_by_no_pours(self):
        self.assertEqual(near_enough(WIDE, (1, 2), (1, 2), (1, 100)), ())
        self.assertEqual(near_enough(WIDE, (1, 2), (1, 3), (1, 6)), ())
        self.assertEqual(near_enough(WIDE, (1, 2), (2, 3), (1, 6)), ())
        for share, wished in product(SOME_SHARES + LONG_SHARES, repeat=2):
            self.assertEqual(near_enough(WIDE, share, wished, (1, 1)), ())

    def test_just_as_great_as_what_is_left_and_just_smaller(self):
        # From 1/2 one pour ends at 1/8, 1/24 from the wished 1/6.
        self.assertEqual(near_enough(WIDE, (1, 2), (1, 6), (1, 24)), (RIGHT,))
        self.assertNotEqual(near_enough(WIDE, (1, 2), (1, 6), (1, 25)), (RIGHT,))
        self.assertEqual(near_enough(WIDE, (1, 2), (1, 6), (1, 3)), ())
        self.assertEqual(near_enough(WIDE, (1, 2), (1, 6), (333, 1000)), (RIGHT,))

    def test_of_as_few_the_one_that_ends_nearest(self):
        # From 1/2 two pours end at 2/9, 5/9, 7/9 and 17/18, one at 1/3 and 5/6.
        self.assertEqual(near_enough(THIRDS, (1, 2), (13, 20), (1, 7)), (LEFT, RIGHT))
        self.assertEqual(near_enough(THIRDS, (1, 2), (17, 25), (1, 7)), (RIGHT, LEFT))

    def test_fewer_pours_go_ahead_of_nearer_ones(self):
        self.assertEqual(near_enough(THIRDS, (1, 2), (13, 20), (3, 20)), ())
        self.assertEqual(near_enough(HALVES, (0, 1), (2, 5), (3, 10)), (LEFT,))

    def test_of_two_as_near_at_the_lesser_one(self):
        # 2/3 is 1/9 from 5/9 and from 7/9, 1/6 from what fewer pours lead to.
        self.assertEqual(near_enough(THIRDS, (1, 2), (2, 3), (1, 9)), (LEFT, RIGHT))
        self.assertEqual(near_enough(THIRDS, (1, 2), (2, 3), (1, 7)), (LEFT, RIGHT))
        self.assertEqual(near_enough(THIRDS, (1, 2), (2, 3), (1, 6)), ())

    def test_the_lesser_one_of_any_two_ends_beside_one_another(self):
        found = 0
        for parts, share in product(SOME_PARTS, SOME_SHARES):
            ends = sorted((end_of(parts, share, row), row) for row in all_rows(3))
            for (low, lesser), (high, greater) in zip(ends, ends[1:]):
                wished, distance = as_pair((low + high) / 2), as_pair((high - low) / 2)
                told = near_enough(parts, share, wished, distance)
                self.assertEqual(told, listed_near_enough(parts, share, wished, distance))
                found += told == lesser
        self.assertGreater(found, 20)

    def test_all_rows_of_a_few_pours(self):
        for parts in SOME_PARTS:
            for share, wished in product(((0, 1), (1, 1), (1, 3), LONG_SHARES[2]), SOME_SHARES + LONG_SHARES):
                for distance in SOME_DISTANCES:
                    wanted = listed_near_enough(parts, share, wished, distance)
                    told = near_enough(parts, share, wished, distance)
                    if wanted is not None:
                        self.assertEqual(told, wanted)
                    elif told is not None:
                        self.assertTrue(FEW < len(told) <= 20)
                        far = abs(end_of(parts, share, told) - Fraction(*wished))
                        self.assertLessEqual(far, Fraction(*distance))

    def test_twenty_pours_and_one_more(self):
        self.assertEqual(near_enough(HALVES, (1, 1), (0, 1), (1, 2**20)), (RIGHT,) * 20)
        self.assertIsNone(near_enough(HALVES, (1, 1), (0, 1), (1, 2**20 + 1)))
        self.assertIsNone(near_enough(HALVES, (1, 1), (0, 1), (1, 2**21)))
        self.assertEqual(near_enough(HALVES, (0, 1), (1, 1), (1, 2**20)), (LEFT,) * 20)
        self.assertIsNone(near_enough(HALVES, (0, 1), (1, 1), (1, 2**20 + 1)))

    def test_a_row_of_twenty_pours_told_by_its_end(self):
        row = (LEFT, RIGHT, RIGHT, LEFT, RIGHT) * 4
        end = end_of(HALVES, (0, 1), row)
        self.assertEqual(end.denominator, 2**20)
        self.assertEqual(near_enough(HALVES, (0, 1), as_pair(end), LEAST_DISTANCE), row)

    def test_none_where_no_row_comes_near(self):
        # Behind the first pour nothing lies between 1/4 and 2/3.
        self.assertIsNone(near_enough(WIDE, (0, 1), (1, 2), (1, 7)))
        self.assertIsNone(near_enough(WIDEST, (1, 1), (1, 2), (2, 5)))
        self.assertIsNone(near_enough(HALVES, (1, 3), (12345678901234567891, 98765432109876543211), LEAST_DISTANCE))


class GoesTo(unittest.TestCase):
    def test_one_pour_again_and_again(self):
        for parts in SOME_PARTS:
            self.assertEqual(goes_to(parts, (RIGHT,)), (0, 1))
            self.assertEqual(goes_to(parts, (LEFT,)), (1, 1))

    def test_two_pours(self):
        self.assertEqual(goes_to(HALVES, (LEFT, RIGHT)), (1, 3))
        self.assertEqual(goes_to(HALVES, (RIGHT, LEFT)), (2, 3))
        self.assertEqual(goes_to(WIDE, (RIGHT, LEFT)), (8, 11))

    def test_the_row_leads_it_to_itself(self):
        for parts in SOME_PARTS:
            for row in [row for many in range(1, 7) for row in all_rows(many)] + list(LONG_ROWS):
                told = goes_to(parts, row)
                self.assertEqual(end_of(parts, told, row), Fraction(*told))
                self.assertTrue(0 <= Fraction(*told) <= 1)
                self.assertEqual(as_pair(Fraction(*told)), told)

    def test_a_fraction_of_whole_numbers(self):
        for row in ((RIGHT,), (LEFT,), (RIGHT, LEFT) * 20):
            told = goes_to(TWELFTHS, row)
            self.assertIs(type(told), tuple)
            self.assertEqual([type(number) for number in told], [int, int])

    def test_every_share_comes_nearer(self):
        for parts, share in product(SOME_PARTS, SOME_SHARES + LONG_SHARES):
            for row in all_rows(3):
                goal = Fraction(*goes_to(parts, row))
                ahead = abs(Fraction(*share) - goal)
                behind = abs(end_of(parts, share, row) - goal)
                self.assertTrue(behind < ahead or behind == ahead == 0)


class TimesTill(unittest.TestCase):
    def test_no_times(self):
        for parts, row in product(SOME_PARTS, all_rows(2)):
            self.assertEqual(times_till(parts, (1, 2), row, (1, 1)), 0)
        self.assertEqual(times_till(HALVES, (1, 3), (LEFT, RIGHT), LEAST_DISTANCE), 0)
        self.assertEqual(times_till(HALVES, (0, 1), (RIGHT,), LEAST_DISTANCE), 0)
        self.assertEqual(times_till(HALVES, (1, 1), (LEFT,), LEAST_DISTANCE), 0)

    def test_just_as_great_as_what_is_left_and_just_smaller(self):
        self.assertEqual(times_till(HALVES, (1, 1), (RIGHT,), (1, 1)), 0)
        self.assertEqual(times_till(HALVES, (1, 1), (RIGHT,), (TWENTY_NINES - 1, TWENTY_NINES)), 1)
        self.assertEqual(times_till(HALVES, (1, 1), (RIGHT,), (1, 2)), 1)
        self.assertEqual(times_till(HALVES, (1, 1), (RIGHT,), (49, 100)), 2)
        self.assertEqual(times_till(HALVES, (1, 1), (RIGHT,), (1, 2**60)), 60)
        self.assertEqual(times_till(HALVES, (1, 1), (RIGHT,), (1, 2**60 + 1)), 61)
        self.assertEqual(times_till(HALVES, (1, 1), (RIGHT, RIGHT), (1, 2**60)), 30)
        self.assertEqual(times_till(HALVES, (1, 1), (RIGHT, RIGHT), (1, 2**60 + 1)), 31)

    def test_from_both_sides(self):
        # Left, then right by halves goes to 1/3, and a quarter of how far one is remains.
        self.assertEqual(times_till(HALVES, (1, 1), (LEFT, RIGHT), (1, 24)), 2)
        self.assertEqual(times_till(HALVES, (1, 1), (LEFT, RIGHT), (1, 25)), 3)
        self.assertEqual(times_till(HALVES, (0, 1), (LEFT, RIGHT), (1, 48)), 2)
        self.assertEqual(times_till(HALVES, (0, 1), (LEFT, RIGHT), (1, 49)), 3)

    def test_poured_again_and_again(self):
        for parts, share in product(SOME_PARTS, SOME_SHARES):
            for row in all_rows(1) + all_rows(3):
                for distance in SOME_DISTANCES[:-1]:
                    told = times_till(parts, share, row, distance)
                    self.assertEqual(told, listed_times(parts, share, row, distance))

    def test_many_times(self):
        for parts, row, share in ((NARROW, (RIGHT,), (1, 1)), (((11, 12), (1, 12)), (LEFT,), (0, 1))):
            told = times_till(parts, share, row, LEAST_DISTANCE)
            self.assertEqual(told, listed_times(parts, share, row, LEAST_DISTANCE))
            self.assertGreater(told, 500)

    def test_near_from_then_on_and_not_ahead(self):
        for parts, row in product((HALVES, THIRDS, WIDE, WIDEST), ((RIGHT,), (LEFT, RIGHT), (LEFT, LEFT, RIGHT))):
            for share, distance in product(LONG_SHARES, ((1, 1000), (3, 10**9 + 7))):
                told = times_till(parts, share, row, distance)
                for times in range(told + 4):
                    near = far_behind(parts, share, row, times) <= Fraction(*distance)
                    self.assertIs(near, times >= told)

    def test_rows_of_forty_pours(self):
        for parts, row in product(SOME_PARTS, LONG_ROWS):
            for share in LONG_SHARES + ((0, 1), (1, 1)):
                told = times_till(parts, share, row, LEAST_DISTANCE)
                self.assertIs(type(told), int)
                self.assertLessEqual(far_behind(parts, share, row, told), Fraction(*LEAST_DISTANCE))
                if told > 0:
                    self.assertGreater(far_behind(parts, share, row, told - 1), Fraction(*LEAST_DISTANCE))


class Refused(unittest.TestCase):
    RIGHT_ONES = {
        near_enough: (HALVES, (1, 2), (1, 4), (1, 8)),
        goes_to: (HALVES, (RIGHT, LEFT)),
        times_till: (HALVES, (1, 2), (RIGHT, LEFT), (1, 8)),
    }
    ERRORS = {
        near_enough: (NoParts, NoShare, NoShare, NoDistance),
        goes_to: (NoParts, NoRow),
        times_till: (NoParts, NoShare, NoRow, NoDistance),
    }

    def assert_refused(self, error, asked, *handed):
        with self.assertRaises(error) as caught:
            asked(*handed)
        self.assertIs(type(caught.exception), error)

    def test_each_argument_of_anything(self):
        for asked, handed in self.RIGHT_ONES.items():
            for at, error in enumerate(self.ERRORS[asked]):
                for thing in NOTHING:
                    self.assert_refused(error, asked, *handed[:at], thing, *handed[at + 1:])

    def test_the_argument_told_first_goes_first(self):
        for asked, handed in self.RIGHT_ONES.items():
            for wrong in product((False, True), repeat=len(handed)):
                if any(wrong):
                    made = [None if bad else good for bad, good in zip(wrong, handed)]
                    self.assert_refused(self.ERRORS[asked][wrong.index(True)], asked, *made)

    def test_a_row_of_none_at_its_place(self):
        self.assert_refused(NoRow, goes_to, HALVES, ())
        self.assert_refused(NoParts, goes_to, None, ())
        self.assert_refused(NoRow, times_till, HALVES, (1, 2), (), (1, 8))
        self.assert_refused(NoRow, times_till, HALVES, (1, 2), (), (0, 1))
        self.assert_refused(NoRow, times_till, HALVES, (1, 2), (), None)
        self.assert_refused(NoShare, times_till, HALVES, (1, 0), (), (1, 8))
        self.assert_refused(NoParts, times_till, ((1, 2), (1, 3)), (1, 0), (), (1, 8))

    def test_rows_of_forty_one(self):
        self.assert_refused(NoRow, goes_to, HALVES, (RIGHT,) * 41)
        self.assert_refused(NoRow, times_till, HALVES, (1, 2), (RIGHT,) * 41, (1, 8))

    def test_distances_that_are_none(self):
        none = ((0, 1), (0, 2), (2, 4), (2, 1), (-1, 2), (1, -2), (1, 0), (1, LEAST_OF_TWENTY_ONE), [1, 2], 1, 0, None)
        for distance in none + ((True, 2), (1, True), (1, 2, 3), "1", (1,)):
            self.assert_refused(NoDistance, near_enough, HALVES, (1, 2), (1, 2), distance)
            self.assert_refused(NoDistance, times_till, HALVES, (0, 1), (RIGHT,), distance)

    def test_shares_of_twenty_one_figures(self):
        long = (1, LEAST_OF_TWENTY_ONE)
        self.assert_refused(NoShare, near_enough, HALVES, long, (1, 2), (1, 8))
        self.assert_refused(NoShare, near_enough, HALVES, (1, 2), long, (1, 8))
        self.assert_refused(NoShare, times_till, HALVES, long, (RIGHT,), (1, 8))


if __name__ == "__main__":
    unittest.main()
