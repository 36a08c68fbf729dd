import unittest
from bisect import bisect_right
from fractions import Fraction
from itertools import product
from math import comb

from pourback.errors import NoLefts, NoMany, NoNumber, NoParts, NoRow, NoShare
from pourback.orders import at_most, how_many, nearest, number_of, row_of
from tests.listed import (
    HALVES,
    LEAST_OF_TWENTY_ONE,
    LEFT,
    LONG_SHARES,
    NOTHING,
    RIGHT,
    SOME_PARTS,
    SOME_SHARES,
    THIRDS,
    TWENTY_NINES,
    WIDE,
    all_lefts,
    all_rows,
    as_pair,
    end_of,
    listed_ends,
    listed_nearest,
    wishes,
)

FEW_SHARES = ((0, 1), (1, 1), (1, 3), (7, 12), LONG_SHARES[2])
LONG_ROWS = (
    (RIGHT,) * 40,
    (LEFT,) * 40,
    (RIGHT, LEFT) * 20,
    (LEFT,) * 20 + (RIGHT,) * 20,
    (RIGHT,) * 20 + (LEFT,) * 20,
    (LEFT, LEFT, RIGHT, LEFT, RIGHT) * 8,
)
# Texts, truths, lists and tuples in place of a number, and numbers beyond any.
NO_NUMBERS = tuple(thing for thing in NOTHING if thing is not None)


class HowMany(unittest.TestCase):
    def test_all_rows_listed(self):
        for many in range(8):
            for lefts in all_lefts(many):
                listed = [row for row in all_rows(many) if lefts is None or row.count(LEFT) == lefts]
                self.assertEqual(how_many(many, lefts), len(listed))

    def test_no_pours(self):
        self.assertEqual(how_many(0, None), 1)
        self.assertEqual(how_many(0, 0), 1)

    def test_forty_pours(self):
        self.assertEqual(how_many(40, None), 2**40)
        for lefts in range(41):
            self.assertEqual(how_many(40, lefts), comb(40, lefts))

    def test_a_whole_number(self):
        self.assertIs(type(how_many(0, 0)), int)
        self.assertIs(type(how_many(3, None)), int)


class RowOf(unittest.TestCase):
    def test_a_few(self):
        self.assertEqual(row_of(2, None, 0), (RIGHT, RIGHT))
        self.assertEqual(row_of(2, None, 1), (LEFT, RIGHT))
        self.assertEqual(row_of(2, None, 2), (RIGHT, LEFT))
        self.assertEqual(row_of(2, None, 3), (LEFT, LEFT))
        self.assertEqual(row_of(3, 1, 0), (LEFT, RIGHT, RIGHT))
        self.assertEqual(row_of(3, 1, 2), (RIGHT, RIGHT, LEFT))

    def test_no_pours(self):
        self.assertEqual(row_of(0, None, 0), ())
        self.assertEqual(row_of(0, 0, 0), ())

    def test_in_the_order_of_the_ends(self):
        for parts, share in product(SOME_PARTS, FEW_SHARES):
            for many in range(6):
                for lefts in all_lefts(many):
                    wanted = [row for end, row in listed_ends(parts, share, many, lefts)]
                    told = [row_of(many, lefts, number) for number in range(how_many(many, lefts))]
                    self.assertEqual(told, wanted)

    def test_the_first_and_the_last_of_forty_pours(self):
        self.assertEqual(row_of(40, None, 0), (RIGHT,) * 40)
        self.assertEqual(row_of(40, None, 2**40 - 1), (LEFT,) * 40)
        for lefts in range(41):
            self.assertEqual(row_of(40, lefts, 0), (LEFT,) * lefts + (RIGHT,) * (40 - lefts))
            last = (RIGHT,) * (40 - lefts) + (LEFT,) * lefts
            self.assertEqual(row_of(40, lefts, comb(40, lefts) - 1), last)

    def test_one_less_than_there_are_and_just_as_many(self):
        for many in (0, 1, 5, 40):
            for lefts in all_lefts(many):
                rows = how_many(many, lefts)
                self.assertEqual(len(row_of(many, lefts, rows - 1)), many)
                for number in (rows, rows + 1, -1, -rows):
                    with self.assertRaises(NoNumber):
                        row_of(many, lefts, number)


class NumberOf(unittest.TestCase):
    def test_a_row_of_none(self):
        self.assertEqual(number_of((), True), 0)
        self.assertEqual(number_of((), False), 0)

    def test_in_the_order_of_the_ends(self):
        for parts, share in product(SOME_PARTS, FEW_SHARES):
            for many in range(6):
                for lefts in all_lefts(many):
                    for number, (end, row) in enumerate(listed_ends(parts, share, many, lefts)):
                        self.assertEqual(number_of(row, lefts is None), number)

    def test_of_forty_pours(self):
        self.assertEqual(number_of((RIGHT,) * 40, True), 0)
        self.assertEqual(number_of((RIGHT,) * 40, False), 0)
        self.assertEqual(number_of((LEFT,) * 40, True), 2**40 - 1)
        self.assertEqual(number_of((LEFT,) * 40, False), 0)
        self.assertEqual(number_of((RIGHT,) * 39 + (LEFT,), True), 2**39)
        self.assertEqual(number_of((RIGHT,) * 39 + (LEFT,), False), 39)

    def test_there_and_back(self):
        for row in LONG_ROWS:
            self.assertEqual(row_of(40, None, number_of(row, True)), row)
            self.assertEqual(row_of(40, row.count(LEFT), number_of(row, False)), row)
        for lefts in (None, 1, 20, 39):
            rows = how_many(40, lefts)
            for number in (0, 1, rows // 3, rows // 2, rows - 2, rows - 1):
                self.assertEqual(number_of(row_of(40, lefts, number), lefts is None), number)


class AtMost(unittest.TestCase):
    def test_a_few(self):
        # From 1/2 one pour ends at 1/8 or 5/6.
        told = [at_most(WIDE, (1, 2), 1, None, wished) for wished in ((0, 1), (1, 9), (1, 8), (1, 2), (5, 6), (1, 1))]
        self.assertEqual(told, [0, 0, 1, 1, 2, 2])
        told = [at_most(WIDE, (1, 2), 1, 1, wished) for wished in ((0, 1), (1, 8), (4, 5), (5, 6), (1, 1))]
        self.assertEqual(told, [0, 0, 0, 1, 1])

    def test_no_pours(self):
        for lefts in (None, 0):
            self.assertEqual(at_most(WIDE, (1, 2), 0, lefts, (1, 2)), 1)
            self.assertEqual(at_most(WIDE, (1, 2), 0, lefts, (2, 3)), 1)
            self.assertEqual(at_most(WIDE, (1, 2), 0, lefts, (1, 3)), 0)

    def test_just_between_both_pours_where_the_parts_are_together_just_1(self):
        self.assertEqual(at_most(HALVES, (0, 1), 1, None, (1, 2)), 2)
        self.assertEqual(at_most(HALVES, (1, 1), 1, None, (1, 2)), 1)
        self.assertEqual(at_most(THIRDS, (0, 1), 1, None, (2, 3)), 2)
        self.assertEqual(at_most(THIRDS, (1, 1), 1, None, (2, 3)), 1)

    def test_all_rows_of_a_few_pours(self):
        for parts, share in product(SOME_PARTS, FEW_SHARES):
            for many in range(5):
                for lefts in all_lefts(many):
                    ends = [end for end, row in listed_ends(parts, share, many, lefts)]
                    for wished in wishes(parts, share, many):
                        told = at_most(parts, share, many, lefts, wished)
                        self.assertEqual(told, bisect_right(ends, Fraction(*wished)))

    def test_forty_halves(self):
        # By halves from 0 the row of a number ends at so many of 2**40 parts, from 1 at one more.
        for number in (0, 1, 2, 3**25, 2**39 - 1, 2**39, 2**40 - 1):
            wished = as_pair(Fraction(number, 2**40))
            self.assertEqual(at_most(HALVES, (0, 1), 40, None, wished), number + 1)
            self.assertEqual(at_most(HALVES, (1, 1), 40, None, wished), number)
            just_less = as_pair(Fraction(2 * number + 1, 2**41))
            self.assertEqual(at_most(HALVES, (0, 1), 40, None, just_less), number + 1)

    def test_all_or_none_of_forty_pours(self):
        for parts, share in product(SOME_PARTS, SOME_SHARES + LONG_SHARES):
            for lefts in (None, 0, 1, 20, 39, 40):
                self.assertEqual(at_most(parts, share, 40, lefts, (1, 1)), how_many(40, lefts))
            self.assertEqual(at_most(parts, share, 40, None, (0, 1)), 1 if share == (0, 1) else 0)
            self.assertEqual(at_most(parts, share, 40, 1, (0, 1)), 0)

    def test_the_last_one_at_most_there_and_the_first_one_beyond(self):
        for parts, share in product(SOME_PARTS, FEW_SHARES):
            for lefts, wished in product((None, 0, 13, 20, 40), ((1, 2), (5, 7), (12, 97)) + LONG_SHARES):
                told = at_most(parts, share, 40, lefts, wished)
                if told > 0:
                    self.assertLessEqual(end_of(parts, share, row_of(40, lefts, told - 1)), Fraction(*wished))
                if told < how_many(40, lefts):
                    self.assertGreater(end_of(parts, share, row_of(40, lefts, told)), Fraction(*wished))


class Nearest(unittest.TestCase):
    def test_just_at_an_end(self):
        self.assertEqual(nearest(WIDE, (1, 2), 1, None, (1, 8)), ((RIGHT,), (0, 1)))
        self.assertEqual(nearest(WIDE, (1, 2), 1, None, (5, 6)), ((LEFT,), (0, 1)))

    def test_between_two_ends(self):
        self.assertEqual(nearest(WIDE, (1, 2), 1, None, (1, 4)), ((RIGHT,), (1, 8)))
        self.assertEqual(nearest(WIDE, (1, 2), 1, None, (2, 3)), ((LEFT,), (1, 6)))

    def test_ahead_of_the_least_and_beyond_the_greatest_end(self):
        self.assertEqual(nearest(WIDE, (1, 2), 1, None, (0, 1)), ((RIGHT,), (1, 8)))
        self.assertEqual(nearest(WIDE, (1, 2), 1, None, (1, 1)), ((LEFT,), (1, 6)))

    def test_just_in_the_middle_of_two_ends(self):
        # 23/48 is as far from 1/8 as from 5/6.
        self.assertEqual(nearest(WIDE, (1, 2), 1, None, (23, 48)), ((RIGHT,), (17, 48)))
        self.assertEqual(nearest(WIDE, (1, 2), 1, None, (24, 49)), ((LEFT,), (101, 294)))
        self.assertEqual(nearest(HALVES, (0, 1), 2, None, (3, 8)), ((LEFT, RIGHT), (1, 8)))
        self.assertEqual(nearest(HALVES, (0, 1), 2, 1, (3, 8)), ((LEFT, RIGHT), (1, 8)))

    def test_one_row_alone(self):
        for lefts, row in ((0, (RIGHT, RIGHT)), (2, (LEFT, LEFT))):
            for wished in ((0, 1), (1, 2), (1, 1)):
                far = as_pair(abs(end_of(WIDE, (1, 2), row) - Fraction(*wished)))
                self.assertEqual(nearest(WIDE, (1, 2), 2, lefts, wished), (row, far))

    def test_no_pours(self):
        for lefts in (None, 0):
            self.assertEqual(nearest(WIDE, (1, 2), 0, lefts, (1, 2)), ((), (0, 1)))
            self.assertEqual(nearest(WIDE, (1, 2), 0, lefts, (1, 3)), ((), (1, 6)))
            self.assertEqual(nearest(WIDE, (1, 2), 0, lefts, (2, 3)), ((), (1, 6)))

    def test_all_rows_of_a_few_pours(self):
        for parts, share in product(SOME_PARTS, FEW_SHARES):
            for many in range(5):
                for lefts in all_lefts(many):
                    for wished in wishes(parts, share, many):
                        told = nearest(parts, share, many, lefts, wished)
                        self.assertEqual(told, listed_nearest(parts, share, many, lefts, wished))

    def test_forty_pours(self):
        for parts, share in product(SOME_PARTS, FEW_SHARES):
            for lefts, wished in product((None, 0, 13, 20, 40), ((0, 1), (1, 1), (5, 7)) + LONG_SHARES):
                row, far = nearest(parts, share, 40, lefts, wished)
                self.assertEqual(as_pair(abs(end_of(parts, share, row) - Fraction(*wished))), far)
                self.assertEqual(len(row), 40)
                self.assertIn(lefts, (None, row.count(LEFT)))
                number = number_of(row, lefts is None)
                for beside in (number - 1, number + 1):
                    if 0 <= beside < how_many(40, lefts):
                        end = end_of(parts, share, row_of(40, lefts, beside))
                        self.assertGreaterEqual(abs(end - Fraction(*wished)), Fraction(*far))

    def test_forty_pours_just_in_the_middle(self):
        for number in (0, 5, 3**25, 2**40 - 2):
            row, far = nearest(HALVES, (0, 1), 40, None, as_pair(Fraction(2 * number + 1, 2**41)))
            self.assertEqual((number_of(row, True), far), (number, (1, 2**41)))

    def test_kinds_of_what_is_told(self):
        told = nearest(WIDE, (1, 2), 2, None, (1, 3))
        self.assertEqual([type(told), type(told[0]), type(told[1])], [tuple] * 3)
        self.assertEqual([type(number) for number in told[1]], [int, int])


class Refused(unittest.TestCase):
    RIGHT_ONES = {
        how_many: (2, 1),
        row_of: (2, 1, 1),
        number_of: ((RIGHT, LEFT), True),
        at_most: (HALVES, (1, 2), 2, 1, (1, 4)),
        nearest: (HALVES, (1, 2), 2, 1, (1, 4)),
    }
    ERRORS = {
        how_many: (NoMany, NoLefts),
        row_of: (NoMany, NoLefts, NoNumber),
        number_of: (NoRow, NoLefts),
        at_most: (NoParts, NoShare, NoMany, NoLefts, NoShare),
        nearest: (NoParts, NoShare, NoMany, NoLefts, NoShare),
    }

    def assert_refused(self, error, asked, *handed):
        with self.assertRaises(error) as caught:
            asked(*handed)
        self.assertIs(type(caught.exception), error)

    def assert_refused_at(self, asked, at, thing):
        handed = list(self.RIGHT_ONES[asked])
        handed[at] = thing
        self.assert_refused(self.ERRORS[asked][at], asked, *handed)

    def test_each_argument_of_anything(self):
        for asked, errors in self.ERRORS.items():
            for at, error in enumerate(errors):
                for thing in NO_NUMBERS:
                    if not (asked is number_of and at == 1 and isinstance(thing, bool)):
                        self.assert_refused_at(asked, at, thing)
                if error is not NoLefts:
                    self.assert_refused_at(asked, at, None)

    def test_the_argument_told_first_goes_first(self):
        for asked, handed in self.RIGHT_ONES.items():
            for wrong in product((False, True), repeat=len(handed)):
                if any(wrong):
                    made = [[] if bad else good for bad, good in zip(wrong, handed)]
                    self.assert_refused(self.ERRORS[asked][wrong.index(True)], asked, *made)

    def test_many_of_0_and_40_and_beyond(self):
        for many in (0, 40):
            self.assertEqual(how_many(many, 0), 1)
            self.assertEqual(row_of(many, 0, 0), (RIGHT,) * many)
            self.assertEqual(at_most(HALVES, (0, 1), many, 0, (0, 1)), 1)
            self.assertEqual(nearest(HALVES, (0, 1), many, 0, (1, 2)), ((RIGHT,) * many, (1, 2)))
        for many in (-1, 41, True, False, None, "1", (1, 1)):
            self.assert_refused(NoMany, how_many, many, None)
            self.assert_refused(NoMany, row_of, many, None, 0)
            self.assert_refused(NoMany, at_most, HALVES, (1, 2), many, None, (1, 2))
            self.assert_refused(NoMany, nearest, HALVES, (1, 2), many, None, (1, 2))

    def test_lefts_of_0_and_of_many_and_beyond(self):
        for many in (0, 1, 7, 40):
            self.assertEqual(how_many(many, many), 1)
            for lefts in (-1, many + 1, True, False, "0", (0,), [0]):
                self.assert_refused(NoLefts, how_many, many, lefts)
                self.assert_refused(NoLefts, row_of, many, lefts, 0)
                self.assert_refused(NoLefts, at_most, HALVES, (1, 2), many, lefts, (1, 2))
                self.assert_refused(NoLefts, nearest, HALVES, (1, 2), many, lefts, (1, 2))

    def test_truths_are_no_numbers(self):
        for number in (True, False):
            self.assert_refused(NoNumber, row_of, 2, None, number)

    def test_any_lefts_of_anything_else_than_a_truth(self):
        for thing in (0, 1, None, "True", "", (), [], (True,), -1, 2):
            self.assert_refused(NoLefts, number_of, (), thing)
            self.assert_refused(NoLefts, number_of, (LEFT,), thing)
            self.assert_refused(NoRow, number_of, [LEFT], thing)

    def test_rows_of_forty_one_and_shares_of_twenty_one_figures(self):
        self.assert_refused(NoRow, number_of, (RIGHT,) * 41, True)
        for asked in (at_most, nearest):
            self.assert_refused(NoShare, asked, HALVES, (1, LEAST_OF_TWENTY_ONE), 1, None, (1, 2))
            self.assert_refused(NoShare, asked, HALVES, (1, 2), 1, None, (1, LEAST_OF_TWENTY_ONE))
            asked(HALVES, (1, TWENTY_NINES), 1, None, (1, TWENTY_NINES))


if __name__ == "__main__":
    unittest.main()
