import unittest
from fractions import Fraction
from itertools import product

from pourback.errors import Full, NoParts, NoPour, NoShare, NothingLeft
from pourback.kept import Kept
from tests.listed import (
    HALVES,
    LEAST_OF_TWENTY_ONE,
    LEFT,
    LONG_SHARES,
    NOTHING,
    RIGHT,
    SOME_PARTS,
    SOME_SHARES,
    THIRDS,
    WIDE,
    all_rows,
    as_pair,
    end_of,
    nested,
)

NO_POURS = tuple(thing for thing in NOTHING if thing not in (RIGHT, LEFT))
NO_POURS += ("Right", "LEFT", " left", "left ", "rightleft", "r", (RIGHT,), [LEFT], 0, 1, ())


def kept_behind(parts, share, row):
    tubs = Kept(parts, share)
    for pour in row:
        tubs.pour(pour)
    return tubs


def sum_of(parts, share, row):
    """The sum of what was poured, by what is in both tubs, pour by pour."""
    p, q = Fraction(*parts[0]), Fraction(*parts[1])
    left, right, amount = Fraction(*share), 1 - Fraction(*share), Fraction(0)
    for pour in row:
        moved = p * left if pour == RIGHT else q * right
        sign = 1 if pour == RIGHT else -1
        left, right, amount = left - sign * moved, right + sign * moved, amount + moved
    return as_pair(amount)


def told_of(tubs):
    return (tubs.share(), tubs.pours(), tubs.poured(), len(tubs))


class Tubs(unittest.TestCase):
    def assert_tubs(self, tubs, parts, share, row):
        self.assertEqual(tubs.share(), as_pair(end_of(parts, share, row)))
        self.assertEqual(tubs.pours(), row)
        self.assertEqual(tubs.poured(), sum_of(parts, share, row))
        self.assertEqual(len(tubs), len(row))


class Poured(Tubs):
    def test_ahead_of_all_pours(self):
        for parts, share in product(SOME_PARTS, SOME_SHARES + LONG_SHARES):
            self.assertEqual(told_of(Kept(parts, share)), (share, (), (0, 1), 0))

    def test_a_few_pours(self):
        tubs = Kept(WIDE, (1, 2))
        self.assertIsNone(tubs.pour(RIGHT))
        self.assertEqual(told_of(tubs), ((1, 8), (RIGHT,), (3, 8), 1))
        self.assertIsNone(tubs.pour(LEFT))
        self.assertEqual(told_of(tubs), ((17, 24), (RIGHT, LEFT), (23, 24), 2))
        tubs.pour(RIGHT)
        # More was poured by now than there is.
        self.assertEqual(told_of(tubs), ((17, 96), (RIGHT, LEFT, RIGHT), (143, 96), 3))

    def test_nothing_comes_of_an_empty_tub(self):
        self.assertEqual(told_of(kept_behind(WIDE, (0, 1), (RIGHT,) * 3)), ((0, 1), (RIGHT,) * 3, (0, 1), 3))
        self.assertEqual(told_of(kept_behind(WIDE, (1, 1), (LEFT,) * 3)), ((1, 1), (LEFT,) * 3, (0, 1), 3))

    def test_all_rows_of_a_few_pours(self):
        for parts, share in product(SOME_PARTS, SOME_SHARES + LONG_SHARES):
            for row in all_rows(4):
                self.assert_tubs(kept_behind(parts, share, row), parts, share, row)

    def test_kinds_of_what_is_told(self):
        tubs = kept_behind(WIDE, (1, 2), (RIGHT, LEFT))
        for told in (tubs.share(), tubs.poured(), Kept(WIDE, (0, 1)).share(), Kept(WIDE, (0, 1)).poured()):
            self.assertIs(type(told), tuple)
            self.assertEqual([type(number) for number in told], [int, int])
        self.assertIs(type(tubs.pours()), tuple)
        self.assertIs(type(Kept(WIDE, (0, 1)).pours()), tuple)

    def test_two_tubs_do_not_hang_on_one_another(self):
        one, other = Kept(HALVES, (1, 3)), Kept(HALVES, (1, 3))
        one.pour(LEFT)
        self.assertEqual(told_of(other), ((1, 3), (), (0, 1), 0))
        other.pour(RIGHT)
        self.assertEqual(one.pours(), (LEFT,))
        self.assertEqual(one.share(), (2, 3))

    def test_asking_changes_nothing(self):
        tubs = kept_behind(THIRDS, (1, 7), (LEFT, RIGHT, RIGHT))
        self.assertEqual(told_of(tubs), told_of(tubs))
        self.assertTrue(tubs == kept_behind(THIRDS, (1, 7), (LEFT, RIGHT, RIGHT)))


class Back(Tubs):
    def test_pour_by_pour_to_the_very_first(self):
        for parts, share in product(SOME_PARTS, SOME_SHARES):
            row = (LEFT, RIGHT, RIGHT, LEFT, LEFT)
            tubs = kept_behind(parts, share, row)
            for many in reversed(range(5)):
                self.assertIsNone(tubs.back())
                self.assert_tubs(tubs, parts, share, row[:many])
            self.assertTrue(tubs == Kept(parts, share))

    def test_once_more(self):
        for tubs in (Kept(WIDE, (1, 2)), kept_behind(WIDE, (1, 2), (RIGHT,))):
            for pour in tubs.pours():
                tubs.back()
            for again in range(2):
                with self.assertRaises(NothingLeft) as caught:
                    tubs.back()
                self.assertIs(type(caught.exception), NothingLeft)
                self.assertEqual(told_of(tubs), ((1, 2), (), (0, 1), 0))
            tubs.pour(LEFT)
            self.assert_tubs(tubs, WIDE, (1, 2), (LEFT,))

    def test_as_if_it_had_never_been_made(self):
        tubs = kept_behind(HALVES, (1, 3), (RIGHT, RIGHT, LEFT))
        tubs.back()
        tubs.back()
        tubs.pour(LEFT)
        self.assert_tubs(tubs, HALVES, (1, 3), (RIGHT, LEFT))
        self.assertTrue(tubs == kept_behind(HALVES, (1, 3), (RIGHT, LEFT)))

    def test_the_sum_behind_steps_back(self):
        tubs = kept_behind(WIDE, (1, 2), (RIGHT, LEFT))
        self.assertEqual(tubs.poured(), (23, 24))
        tubs.back()
        self.assertEqual(tubs.poured(), (3, 8))
        tubs.pour(RIGHT)
        self.assertEqual(tubs.poured(), sum_of(WIDE, (1, 2), (RIGHT, RIGHT)))
        tubs.back()
        tubs.back()
        self.assertEqual(tubs.poured(), (0, 1))


class AHundred(Tubs):
    ROW = (LEFT, RIGHT, RIGHT, LEFT, RIGHT) * 20

    def test_a_hundred_pours(self):
        for parts, share in product(SOME_PARTS, ((0, 1), LONG_SHARES[2])):
            self.assert_tubs(kept_behind(parts, share, self.ROW), parts, share, self.ROW)

    def test_a_hundred_and_first(self):
        tubs = kept_behind(WIDE, (1, 2), self.ROW)
        for pour in (RIGHT, LEFT):
            with self.assertRaises(Full) as caught:
                tubs.pour(pour)
            self.assertIs(type(caught.exception), Full)
            self.assert_tubs(tubs, WIDE, (1, 2), self.ROW)

    def test_no_pour_goes_ahead_of_full(self):
        tubs = kept_behind(WIDE, (1, 2), self.ROW)
        for thing in NO_POURS:
            with self.assertRaises(NoPour):
                tubs.pour(thing)
        self.assert_tubs(tubs, WIDE, (1, 2), self.ROW)

    def test_room_again_behind_a_step_back(self):
        tubs = kept_behind(WIDE, (1, 2), self.ROW)
        tubs.back()
        tubs.pour(LEFT)
        self.assert_tubs(tubs, WIDE, (1, 2), self.ROW[:-1] + (LEFT,))
        with self.assertRaises(Full):
            tubs.pour(LEFT)

    def test_what_was_taken_back_takes_no_room(self):
        tubs = Kept(HALVES, (1, 3))
        for again in range(150):
            tubs.pour(LEFT)
            tubs.back()
        self.assertTrue(tubs == Kept(HALVES, (1, 3)))


class Equal(unittest.TestCase):
    def assert_equal(self, one, other, told):
        self.assertIs(one == other, told)
        self.assertIs(other == one, told)
        self.assertIs(one != other, not told)
        self.assertIs(other != one, not told)

    def test_by_the_same_way(self):
        for row in ((), (LEFT,), (RIGHT, LEFT)):
            self.assert_equal(kept_behind(WIDE, (1, 2), row), kept_behind(WIDE, (1, 2), row), True)

    def test_by_other_ways_to_the_same(self):
        one = kept_behind(WIDE, (1, 2), (RIGHT, LEFT, LEFT))
        one.back()
        other = Kept(tuple([(3, 4), (2, 3)]), tuple([1, 2]))
        other.pour(LEFT)
        other.back()
        other.pour("".join(["ri", "ght"]))
        other.pour(LEFT)
        self.assert_equal(one, other, True)

    def test_by_refusals_to_the_same(self):
        one = Kept(WIDE, (1, 2))
        with self.assertRaises(NothingLeft):
            one.back()
        with self.assertRaises(NoPour):
            one.pour(None)
        self.assert_equal(one, Kept(WIDE, (1, 2)), True)

    def test_unlike_parts_shares_and_pours(self):
        self.assert_equal(Kept(WIDE, (1, 2)), Kept(HALVES, (1, 2)), False)
        self.assert_equal(Kept(WIDE, (1, 2)), Kept(WIDE, (1, 3)), False)
        self.assert_equal(Kept(WIDE, (1, 2)), kept_behind(WIDE, (1, 2), (LEFT,)), False)
        # Unlike parts with no water moved, and unlike pours to the same share.
        self.assert_equal(kept_behind(WIDE, (0, 1), (RIGHT,)), kept_behind(HALVES, (0, 1), (RIGHT,)), False)
        self.assert_equal(kept_behind(HALVES, (1, 3), (LEFT, RIGHT)), Kept(HALVES, (1, 3)), False)
        self.assert_equal(kept_behind(HALVES, (1, 1), (RIGHT,)), kept_behind(HALVES, (0, 1), (LEFT,)), False)
        self.assert_equal(kept_behind(HALVES, (0, 1), (RIGHT,)), kept_behind(HALVES, (0, 1), (RIGHT, RIGHT)), False)

    def test_nothing_else_equals_one(self):
        for tubs in (Kept(WIDE, (1, 2)), kept_behind(WIDE, (1, 2), (RIGHT,))):
            things = NOTHING + (0, 1, (), WIDE, (1, 2), (WIDE, (1, 2)), (WIDE, (1, 2), ()), (RIGHT,), (tubs,), [tubs])
            for thing in things:
                self.assert_equal(tubs, thing, False)

    def test_not_even_a_thing_that_says_so(self):
        class Yes:
            def __eq__(self, other):
                return True

        self.assertIs(Kept(WIDE, (1, 2)) == Yes(), False)


class Refused(Tubs):
    def assert_refused(self, error, *handed):
        with self.assertRaises(error) as caught:
            Kept(*handed)
        self.assertIs(type(caught.exception), error)

    def test_parts_and_shares_of_anything(self):
        for thing in NOTHING:
            self.assert_refused(NoParts, thing, (1, 2))
            self.assert_refused(NoShare, HALVES, thing)
            self.assert_refused(NoParts, thing, thing)

    def test_just_beyond(self):
        self.assert_refused(NoParts, ((1, 2), (6, 13)), (1, 2))
        self.assert_refused(NoParts, ((1, 2), (5, 11)), (1, 2))
        self.assert_refused(NoParts, [(1, 2), (1, 2)], (1, 2))
        self.assert_refused(NoShare, HALVES, (1, LEAST_OF_TWENTY_ONE))
        self.assert_refused(NoShare, HALVES, (2, 4))
        self.assert_refused(NoShare, HALVES, [1, 2])
        self.assert_refused(NoShare, HALVES, (True, 2))

    def test_things_that_are_no_pours(self):
        tubs = kept_behind(WIDE, (1, 2), (RIGHT, LEFT))
        for thing in NO_POURS:
            with self.assertRaises(NoPour) as caught:
                tubs.pour(thing)
            self.assertIs(type(caught.exception), NoPour)
            self.assert_tubs(tubs, WIDE, (1, 2), (RIGHT, LEFT))

    def test_what_is_refused_is_not_changed(self):
        thing = nested(3, 2)
        for ask in (Kept(WIDE, (1, 2)).pour, lambda thing: Kept(thing, (1, 2)), lambda thing: Kept(WIDE, thing)):
            with self.assertRaises((NoPour, NoParts, NoShare)):
                ask(thing)
        self.assertEqual(thing, nested(3, 2))


if __name__ == "__main__":
    unittest.main()
