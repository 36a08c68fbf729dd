import unittest
from fractions import Fraction

from pourback.errors import NoParts, NoRow, NoShare
from pourback.pours import all_behind, are_parts, behind, is_row, is_share
from tests.listed import (
    HALVES,
    LEAST_OF_TWENTY,
    LEAST_OF_TWENTY_ONE,
    LEFT,
    LONG_SHARES,
    NOTHING,
    RIGHT,
    SOME_PARTS,
    SOME_SHARES,
    TWELFTHS,
    TWENTY_NINES,
    WIDE,
    all_rows,
    as_pair,
    end_of,
    fractions_up_to,
)


class Judged(unittest.TestCase):
    """Things of which exactly True or exactly False is told."""

    def assert_told(self, judge, things, told):
        # The place is shown, not the thing: some hold the same lists so often
        # that they cannot be written out.
        for at, thing in enumerate(things):
            with self.subTest(at=at):
                self.assertIs(judge(thing), told)


class AreParts(Judged):
    def test_all_parts_there_are_and_those_together_less(self):
        for p in fractions_up_to(12):
            for q in fractions_up_to(12):
                self.assertIs(are_parts((p, q)), Fraction(*p) + Fraction(*q) >= 1)

    def test_together_just_1_more_and_just_less(self):
        self.assert_told(are_parts, [HALVES, TWELFTHS, ((1, 12), (11, 12))], True)
        self.assert_told(are_parts, [((11, 12), (11, 12)), ((1, 12), (11, 12)), ((1, 11), (11, 12))], True)
        self.assert_told(are_parts, [((1, 12), (10, 11)), ((5, 11), (6, 12)), ((5, 12), (4, 7))], False)

    def test_bottoms_of_12_and_13(self):
        self.assert_told(are_parts, [((7, 12), (7, 12)), ((1, 2), (11, 12)), ((11, 12), (1, 2))], True)
        self.assert_told(are_parts, [((12, 13), (1, 2)), ((1, 2), (12, 13)), ((7, 13), (7, 13))], False)

    def test_parts_of_0_and_of_1_or_more_or_below_0(self):
        for wrong in ((0, 1), (1, 1), (2, 1), (3, 2), (-1, 2), (13, 12)):
            self.assert_told(are_parts, [(wrong, (11, 12)), ((11, 12), wrong)], False)

    def test_fractions_that_are_none(self):
        none = ((2, 4), (6, 12), (-1, -2), (1, 0), (0, 0), (0, 2), (1, -2), (1,), (1, 2, 3), [1, 2], "12", None, 1)
        none += ((True, 2), (1, True), (1, None), ("1", "2"), (1, "2"), ((1, 2), 2), True)
        for wrong in none:
            self.assert_told(are_parts, [(wrong, (11, 12)), ((11, 12), wrong)], False)

    def test_lists_and_other_lengths(self):
        half = (1, 2)
        self.assert_told(are_parts, [[half, half], (), (half,), (half, half, half), half, ([1, 2], half)], False)

    def test_anything(self):
        self.assert_told(are_parts, NOTHING, False)
        self.assert_told(are_parts, SOME_SHARES, False)
        self.assert_told(are_parts, [0, 1, 40, (), (RIGHT,), (RIGHT, LEFT)], False)


class IsShare(Judged):
    def test_shares(self):
        self.assert_told(is_share, SOME_SHARES + LONG_SHARES + tuple(fractions_up_to(13)), True)

    def test_0_and_1_and_beyond(self):
        self.assert_told(is_share, [(0, 1), (1, 1)], True)
        self.assert_told(is_share, [(-1, 1), (2, 1), (-1, TWENTY_NINES), (TWENTY_NINES, TWENTY_NINES - 1)], False)

    def test_not_in_lowest_terms(self):
        self.assert_told(is_share, [(0, 2), (2, 2), (2, 4), (3, 9), (0, TWENTY_NINES), (9, TWENTY_NINES)], False)

    def test_bottoms_of_nought_and_below(self):
        self.assert_told(is_share, [(0, 0), (1, 0), (0, -1), (-1, -2), (1, -2), (-1, -1)], False)

    def test_twenty_figures_and_one_more(self):
        self.assert_told(is_share, [(1, LEAST_OF_TWENTY), (1, TWENTY_NINES)], True)
        self.assert_told(is_share, [(TWENTY_NINES - 1, TWENTY_NINES), (LEAST_OF_TWENTY, TWENTY_NINES)], True)
        self.assert_told(is_share, [(1, LEAST_OF_TWENTY_ONE), (1, LEAST_OF_TWENTY_ONE + 1)], False)
        self.assert_told(is_share, [(TWENTY_NINES, LEAST_OF_TWENTY_ONE), (LEAST_OF_TWENTY_ONE, 10**20 + 1)], False)
        self.assert_told(is_share, [(1, 10**40 - 1), (10**40 - 2, 10**40 - 1)], False)

    def test_truths_are_no_numbers(self):
        self.assert_told(is_share, [(False, 1), (0, True), (True, 1), (1, True), (True, True), (True, 2)], False)

    def test_lists_and_other_lengths(self):
        self.assert_told(is_share, [[1, 2], (1,), (), (1, 2, 3), (1, (2,)), ((1, 2), (1, 2)), ("1", "2")], False)

    def test_anything(self):
        self.assert_told(is_share, NOTHING, False)
        self.assert_told(is_share, SOME_PARTS, False)
        self.assert_told(is_share, [0, 1, (RIGHT,), (RIGHT, LEFT)], False)


class IsRow(Judged):
    def test_rows(self):
        for many in range(5):
            self.assert_told(is_row, all_rows(many), True)

    def test_of_0_40_and_41_pours(self):
        self.assert_told(is_row, [(), (RIGHT,) * 40, (LEFT,) * 40, (RIGHT, LEFT) * 20], True)
        self.assert_told(is_row, [(RIGHT,) * 41, (LEFT,) * 41, (RIGHT,) * 100], False)

    def test_lists_and_texts_in_place_of_tuples(self):
        self.assert_told(is_row, [[], [RIGHT], [RIGHT] * 40, "", "right", "left"], False)

    def test_other_texts(self):
        for wrong in ("Right", "LEFT", "", "r", "l", " left", "left ", "rightleft", "~" * 100):
            self.assert_told(is_row, [(wrong,), (RIGHT, wrong), (wrong, LEFT), (RIGHT,) * 39 + (wrong,)], False)

    def test_other_things_in_a_row(self):
        for wrong in (None, True, False, 0, 1, [RIGHT], (RIGHT,), (), []):
            self.assert_told(is_row, [(wrong,), (RIGHT, wrong), (wrong, LEFT)], False)

    def test_anything(self):
        self.assert_told(is_row, NOTHING, False)
        self.assert_told(is_row, SOME_PARTS + SOME_SHARES, False)


class Behind(unittest.TestCase):
    def test_one_pour(self):
        self.assertEqual(behind(WIDE, (1, 2), (RIGHT,)), (1, 8))
        self.assertEqual(behind(WIDE, (1, 2), (LEFT,)), (5, 6))

    def test_no_pours(self):
        for share in SOME_SHARES:
            self.assertEqual(behind(WIDE, share, ()), share)
            self.assertEqual(all_behind(WIDE, share, ()), [])

    def test_all_of_one_tub(self):
        self.assertEqual(all_behind(WIDE, (0, 1), (RIGHT, RIGHT, LEFT)), [(0, 1), (0, 1), (2, 3)])
        self.assertEqual(all_behind(WIDE, (1, 1), (LEFT, LEFT, RIGHT)), [(1, 1), (1, 1), (1, 4)])

    def test_all_rows_of_a_few_pours(self):
        for parts in SOME_PARTS:
            for share in SOME_SHARES + LONG_SHARES:
                for row in all_rows(5):
                    self.assertEqual(behind(parts, share, row), as_pair(end_of(parts, share, row)))

    def test_each_pour_of_a_row(self):
        for parts in SOME_PARTS:
            for share in SOME_SHARES:
                for row in all_rows(4):
                    told = all_behind(parts, share, row)
                    wanted = [as_pair(end_of(parts, share, row[:k])) for k in range(1, 5)]
                    self.assertEqual(told, wanted)

    def test_told_are_fractions_of_whole_numbers(self):
        for told in all_behind(TWELFTHS, (1, 3), (RIGHT, LEFT) * 20):
            self.assertIs(type(told), tuple)
            self.assertEqual([type(number) for number in told], [int, int])

    def test_rows_end_at_unlike_shares_in_order(self):
        for parts in SOME_PARTS:
            for share in SOME_SHARES + LONG_SHARES:
                for many in range(7):
                    ends = [Fraction(*behind(parts, share, row)) for row in all_rows(many)]
                    self.assertEqual(ends, sorted(set(ends)))

    def test_at_the_bounds_exactly(self):
        for share in LONG_SHARES + ((0, 1), (1, 1)):
            for parts in SOME_PARTS:
                for row in ((RIGHT,) * 40, (LEFT,) * 40, (RIGHT, LEFT) * 20, (LEFT, LEFT, RIGHT, LEFT) * 10):
                    self.assertEqual(behind(parts, share, row), as_pair(end_of(parts, share, row)))
                    self.assertEqual(len(all_behind(parts, share, row)), 40)

    def test_list_is_new_and_the_askers_own(self):
        first = all_behind(HALVES, (1, 3), (LEFT, RIGHT))
        again = all_behind(HALVES, (1, 3), (LEFT, RIGHT))
        self.assertIsNot(first, again)
        first.append("mine")
        first[0] = None
        self.assertEqual(all_behind(HALVES, (1, 3), (LEFT, RIGHT)), again)
        self.assertEqual(again, [(2, 3), (1, 3)])


class Refused(unittest.TestCase):
    ASKED = (behind, all_behind)

    def assert_refused(self, error, *handed):
        for asked in self.ASKED:
            with self.assertRaises(error) as caught:
                asked(*handed)
            self.assertIs(type(caught.exception), error)

    def test_each_argument_of_anything(self):
        for thing in NOTHING:
            self.assert_refused(NoParts, thing, (1, 2), ())
            self.assert_refused(NoShare, HALVES, thing, ())
            self.assert_refused(NoRow, HALVES, (1, 2), thing)

    def test_each_argument_just_beyond(self):
        self.assert_refused(NoParts, ((1, 2), (6, 13)), (1, 2), (RIGHT,))
        self.assert_refused(NoParts, ((1, 2), (5, 11)), (1, 2), (RIGHT,))
        self.assert_refused(NoShare, HALVES, (0, 2), (RIGHT,))
        self.assert_refused(NoShare, HALVES, (1, LEAST_OF_TWENTY_ONE), (RIGHT,))
        self.assert_refused(NoRow, HALVES, (1, 2), (RIGHT,) * 41)
        self.assert_refused(NoRow, HALVES, (1, 2), [RIGHT])

    def test_the_argument_told_first_goes_first(self):
        for thing in NOTHING:
            self.assert_refused(NoParts, thing, thing, thing)
            self.assert_refused(NoParts, thing, (1, 2), thing)
            self.assert_refused(NoParts, thing, thing, ())
            self.assert_refused(NoShare, HALVES, thing, thing)


if __name__ == "__main__":
    unittest.main()
