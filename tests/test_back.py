import unittest
from fractions import Fraction
from itertools import product

from pourback.back import fewest_to, rows_to, unseen
from pourback.errors import NoMany, NoParts, NoPlace, NoRow, NoShare
from pourback.pours import behind
from tests.listed import (
    HALVES,
    LEAST_OF_TWENTY_ONE,
    LEFT,
    LONG_SHARES,
    NOTHING,
    RIGHT,
    SOME_PARTS,
    SOME_SHARES,
    THIRDS,
    TWELFTHS,
    TWENTY_NINES,
    WIDE,
    all_rows,
    as_pair,
    end_of,
    fractions_up_to,
    listed_rows_to,
)


class RowsTo(unittest.TestCase):
    def test_one_pour(self):
        self.assertEqual(rows_to(WIDE, (1, 8), 1), [((RIGHT,), (1, 2))])
        self.assertEqual(rows_to(WIDE, (5, 6), 1), [((LEFT,), (1, 2))])
        self.assertEqual(rows_to(WIDE, (1, 2), 1), [])

    def test_the_ends_of_what_a_pour_leads_to(self):
        self.assertEqual(rows_to(WIDE, (1, 4), 1), [((RIGHT,), (1, 1))])
        self.assertEqual(rows_to(WIDE, (2, 3), 1), [((LEFT,), (0, 1))])
        self.assertEqual(rows_to(WIDE, (0, 1), 2), [((RIGHT, RIGHT), (0, 1))])
        self.assertEqual(rows_to(WIDE, (1, 1), 2), [((LEFT, LEFT), (1, 1))])

    def test_two_rows_where_the_parts_are_together_just_1(self):
        self.assertEqual(rows_to(HALVES, (1, 2), 1), [((RIGHT,), (1, 1)), ((LEFT,), (0, 1))])
        self.assertEqual(rows_to(THIRDS, (2, 3), 2), [((LEFT, RIGHT), (1, 1)), ((RIGHT, LEFT), (0, 1))])
        told = rows_to(HALVES, (1, 2), 40)
        self.assertEqual(told, [((LEFT,) * 39 + (RIGHT,), (1, 1)), ((RIGHT,) * 39 + (LEFT,), (0, 1))])

    def test_no_pours(self):
        for share in SOME_SHARES + LONG_SHARES:
            self.assertEqual(rows_to(WIDE, share, 0), [((), share)])

    def test_all_rows_of_a_few_pours_tried(self):
        for parts in SOME_PARTS:
            for share in SOME_SHARES + LONG_SHARES + tuple(fractions_up_to(9)):
                for many in range(5):
                    self.assertEqual(rows_to(parts, share, many), listed_rows_to(parts, share, many))

    def test_every_row_is_told_back_from_its_end(self):
        for parts in SOME_PARTS:
            for share in SOME_SHARES:
                for row in all_rows(6):
                    end = behind(parts, share, row)
                    told = rows_to(parts, end, 6)
                    self.assertIn((row, share), told)
                    self.assertEqual([as_pair(end_of(parts, start, way)) for way, start in told], [end] * len(told))

    def test_rows_rise_read_from_the_last_pour_back(self):
        order = {RIGHT: 0, LEFT: 1}
        for share in fractions_up_to(12):
            for parts in (HALVES, THIRDS, TWELFTHS):
                for many in range(8):
                    read = [[order[pour] for pour in row[::-1]] for row, beginning in rows_to(parts, share, many)]
                    self.assertEqual(read, sorted(read))

    def test_beginnings_of_more_figures_than_shares_have(self):
        told = rows_to(TWELFTHS, (1, TWENTY_NINES - 1), 40)
        self.assertEqual(len(told), 1)
        row, (top, bottom) = told[0]
        self.assertGreater(bottom, TWENTY_NINES)
        self.assertGreater(top, TWENTY_NINES)
        self.assertEqual(as_pair(Fraction(top, bottom)), (top, bottom))
        self.assertEqual(as_pair(end_of(TWELFTHS, (top, bottom), row)), (1, TWENTY_NINES - 1))

    def test_forty_pours_back_from_long_shares(self):
        for parts in (HALVES, THIRDS, TWELFTHS):
            for share in LONG_SHARES:
                told = rows_to(parts, share, 40)
                # Together just 1, the parts leave no share that no pour leads to.
                self.assertEqual(len(told), 1)
                for row, beginning in told:
                    self.assertEqual(len(row), 40)
                    self.assertTrue(0 <= Fraction(*beginning) <= 1)
                    self.assertEqual(as_pair(end_of(parts, beginning, row)), share)

    def test_kinds_of_what_is_told(self):
        told = rows_to(HALVES, (1, 2), 3)
        self.assertIs(type(told), list)
        for pair in told:
            self.assertIs(type(pair), tuple)
            self.assertIs(type(pair[0]), tuple)
            self.assertIs(type(pair[1]), tuple)

    def test_list_is_new_and_the_askers_own(self):
        for many in (0, 3):
            first = rows_to(HALVES, (1, 2), many)
            again = rows_to(HALVES, (1, 2), many)
            first.clear()
            self.assertEqual(rows_to(HALVES, (1, 2), many), again)
            self.assertNotEqual(again, [])


class FewestTo(unittest.TestCase):
    def test_both_the_same(self):
        for parts in SOME_PARTS:
            for share in SOME_SHARES + LONG_SHARES:
                self.assertEqual(fewest_to(parts, share, share), ())

    def test_the_same_share_as_another_tuple(self):
        self.assertEqual(fewest_to(WIDE, (1, 2), tuple([1, 2])), ())

    def test_a_few_pours(self):
        self.assertEqual(fewest_to(WIDE, (1, 2), (1, 8)), (RIGHT,))
        self.assertEqual(fewest_to(WIDE, (1, 2), (17, 24)), (RIGHT, LEFT))
        self.assertEqual(fewest_to(WIDE, (1, 8), (1, 2)), None)

    def test_one_row_of_two_that_lead_there(self):
        self.assertEqual(fewest_to(HALVES, (1, 1), (1, 2)), (RIGHT,))
        self.assertEqual(fewest_to(HALVES, (0, 1), (1, 2)), (LEFT,))
        self.assertEqual(fewest_to(HALVES, (1, 1), (1, 4)), (RIGHT, RIGHT))
        self.assertEqual(fewest_to(HALVES, (0, 1), (1, 4)), (LEFT, RIGHT))

    def test_fewer_where_a_share_comes_again(self):
        # Left, then right brings 1/3 back to 1/3: such a round is left out.
        self.assertEqual(behind(HALVES, (1, 3), (LEFT, RIGHT)), (1, 3))
        self.assertEqual(fewest_to(HALVES, (1, 3), behind(HALVES, (1, 3), (LEFT, RIGHT, RIGHT))), (RIGHT,))

    def test_all_rows_of_a_few_pours_from_the_fewest_on(self):
        for parts in SOME_PARTS:
            for share in SOME_SHARES:
                fewest = {}
                for many in range(6):
                    for row in all_rows(many):
                        fewest.setdefault(as_pair(end_of(parts, share, row)), row)
                for other, row in fewest.items():
                    self.assertEqual(fewest_to(parts, share, other), row)

    def test_none_where_no_row_leads_there(self):
        self.assertIsNone(fewest_to(WIDE, (1, 3), (1, 2)))
        self.assertIsNone(fewest_to(HALVES, (1, 2), (0, 1)))
        self.assertIsNone(fewest_to(HALVES, (1, 2), (1, 1)))
        self.assertIsNone(fewest_to(HALVES, (0, 1), (1, 3)))
        self.assertIsNone(fewest_to(HALVES, (1, 7), (1, 3)))

    def test_forty_pours_and_one_more(self):
        self.assertEqual(fewest_to(HALVES, (1, 1), (1, 2**39)), (RIGHT,) * 39)
        self.assertEqual(fewest_to(HALVES, (1, 1), (1, 2**40)), (RIGHT,) * 40)
        self.assertIsNone(fewest_to(HALVES, (1, 1), (1, 2**41)))
        self.assertEqual(fewest_to(HALVES, (0, 1), (1, 2**40)), (LEFT,) + (RIGHT,) * 39)
        mixed = (LEFT, RIGHT, RIGHT, LEFT, RIGHT) * 8
        end = behind(HALVES, (0, 1), mixed)
        self.assertEqual(fewest_to(HALVES, (0, 1), end), mixed)
        # From 0 each pour behind the first one doubles the bottom: this needs 41.
        self.assertEqual(end[1], 2**40)
        self.assertIsNone(fewest_to(HALVES, (0, 1), (end[0], 2**41)))


class Unseen(unittest.TestCase):
    def test_a_pour(self):
        self.assertEqual(unseen(WIDE, (1, 2), (RIGHT,), 0, (1, 8)), RIGHT)
        self.assertEqual(unseen(WIDE, (1, 2), (RIGHT,), 0, (5, 6)), LEFT)
        self.assertIsNone(unseen(WIDE, (1, 2), (RIGHT,), 0, (1, 2)))

    def test_all_rows_of_a_few_pours_at_each_place(self):
        for parts, share in product(SOME_PARTS, SOME_SHARES):
            for row in all_rows(4):
                other = as_pair(end_of(parts, share, row))
                for place in range(4):
                    for stood in (RIGHT, LEFT):
                        handed = row[:place] + (stood,) + row[place + 1:]
                        self.assertEqual(unseen(parts, share, handed, place, other), row[place])

    def test_none_where_neither_leads_there(self):
        for parts, share, row in product(SOME_PARTS, SOME_SHARES[:4], all_rows(3)):
            for other in SOME_SHARES:
                for place in range(3):
                    ends = {}
                    for pour in (RIGHT, LEFT):
                        ends[as_pair(end_of(parts, share, row[:place] + (pour,) + row[place + 1:]))] = pour
                    self.assertEqual(unseen(parts, share, row, place, other), ends.get(other))

    def test_both_ends_of_the_longest_row(self):
        row = (RIGHT,) + (LEFT, RIGHT) * 19 + (LEFT,)
        other = behind(HALVES, (0, 1), row)
        self.assertEqual(unseen(HALVES, (0, 1), row, 39, other), LEFT)
        self.assertIsNone(unseen(HALVES, (1, 1), row, 39, other))
        first_left = (LEFT,) + row[1:]
        self.assertEqual(unseen(HALVES, (0, 1), row, 0, behind(HALVES, (0, 1), first_left)), LEFT)

    def test_places_beyond_the_row(self):
        for row in all_rows(3):
            for place in (-1, 3, 4, -3, 40):
                with self.assertRaises(NoPlace):
                    unseen(HALVES, (1, 2), row, place, (1, 2))

    def test_a_row_of_none_has_no_place(self):
        for place in (0, -1, 1):
            with self.assertRaises(NoPlace):
                unseen(HALVES, (1, 2), (), place, (1, 2))

    def test_truths_are_no_places(self):
        for place in (True, False):
            with self.assertRaises(NoPlace):
                unseen(HALVES, (1, 2), (RIGHT, LEFT), place, (1, 2))

    def test_at_its_place_stands_one_of_both_pours(self):
        for thing in (None, "", "unseen", 0, []):
            with self.assertRaises(NoRow):
                unseen(HALVES, (1, 2), (RIGHT, thing), 1, (1, 2))


class Refused(unittest.TestCase):
    def assert_refused(self, error, asked, *handed):
        with self.assertRaises(error) as caught:
            asked(*handed)
        self.assertIs(type(caught.exception), error)

    def test_rows_to_of_anything(self):
        for thing in NOTHING:
            self.assert_refused(NoParts, rows_to, thing, (1, 2), 1)
            self.assert_refused(NoShare, rows_to, HALVES, thing, 1)
            self.assert_refused(NoMany, rows_to, HALVES, (1, 2), thing)

    def test_many_of_0_and_40_and_beyond(self):
        self.assertEqual(len(rows_to(HALVES, (1, 3), 0)), 1)
        self.assertEqual(len(rows_to(HALVES, (1, 3), 40)), 1)
        for many in (-1, 41, True, False, None, "1", (1, 1), 10**40 - 1):
            self.assert_refused(NoMany, rows_to, HALVES, (1, 3), many)

    def test_many_of_a_share_that_no_row_leads_to(self):
        self.assertEqual(rows_to(WIDE, (1, 2), 40), [])
        self.assert_refused(NoMany, rows_to, WIDE, (1, 2), 41)

    def test_fewest_to_of_anything(self):
        for thing in NOTHING:
            self.assert_refused(NoParts, fewest_to, thing, (1, 2), (1, 2))
            self.assert_refused(NoShare, fewest_to, HALVES, thing, (1, 2))
            self.assert_refused(NoShare, fewest_to, HALVES, (1, 2), thing)
            self.assert_refused(NoShare, fewest_to, HALVES, thing, thing)

    def test_shares_of_twenty_one_figures(self):
        long = (1, LEAST_OF_TWENTY_ONE)
        self.assert_refused(NoShare, rows_to, HALVES, long, 1)
        self.assert_refused(NoShare, fewest_to, HALVES, long, (1, 2))
        self.assert_refused(NoShare, fewest_to, HALVES, (1, 2), long)
        self.assert_refused(NoShare, unseen, HALVES, long, (RIGHT,), 0, (1, 2))
        self.assert_refused(NoShare, unseen, HALVES, (1, 2), (RIGHT,), 0, long)

    def test_unseen_of_anything(self):
        for thing in NOTHING:
            self.assert_refused(NoParts, unseen, thing, (1, 2), (RIGHT,), 0, (1, 2))
            self.assert_refused(NoShare, unseen, HALVES, thing, (RIGHT,), 0, (1, 2))
            self.assert_refused(NoRow, unseen, HALVES, (1, 2), thing, 0, (1, 2))
            self.assert_refused(NoPlace, unseen, HALVES, (1, 2), (RIGHT,), thing, (1, 2))
            self.assert_refused(NoShare, unseen, HALVES, (1, 2), (RIGHT,), 0, thing)

    def test_the_argument_told_first_goes_first(self):
        right = {
            rows_to: (HALVES, (1, 2), 1),
            fewest_to: (HALVES, (1, 2), (1, 4)),
            unseen: (HALVES, (1, 2), (RIGHT,), 0, (1, 4)),
        }
        errors = {
            rows_to: (NoParts, NoShare, NoMany),
            fewest_to: (NoParts, NoShare, NoShare),
            unseen: (NoParts, NoShare, NoRow, NoPlace, NoShare),
        }
        for asked, handed in right.items():
            for wrong in product((False, True), repeat=len(handed)):
                if any(wrong):
                    made = [None if bad else good for bad, good in zip(wrong, handed)]
                    self.assert_refused(errors[asked][wrong.index(True)], asked, *made)


if __name__ == "__main__":
    unittest.main()
