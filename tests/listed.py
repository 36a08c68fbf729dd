"""What the tests hold the program against: all rows listed, fractions of Python's own."""

from fractions import Fraction
from functools import cache
from itertools import product
from math import gcd

RIGHT = "right"
LEFT = "left"

HALVES = ((1, 2), (1, 2))
THIRDS = ((1, 3), (2, 3))
TWELFTHS = ((5, 12), (7, 12))
WIDE = ((3, 4), (2, 3))
NARROW = ((1, 12), (11, 12))
WIDEST = ((11, 12), (11, 12))
SOME_PARTS = (HALVES, THIRDS, TWELFTHS, WIDE, NARROW, WIDEST, ((2, 3), (1, 2)))
SOME_SHARES = ((0, 1), (1, 1), (1, 2), (1, 3), (2, 3), (5, 7), (7, 12), (5, 12), (12, 97))

TWENTY_NINES = 10**20 - 1
LEAST_OF_TWENTY = 10**19
LEAST_OF_TWENTY_ONE = 10**20
LONG_SHARES = (
    (1, TWENTY_NINES),
    (TWENTY_NINES - 1, TWENTY_NINES),
    (12345678901234567891, 98765432109876543211),
    (TWENTY_NINES // 2, TWENTY_NINES),
)


def fractions_up_to(most):
    """All fractions between 0 and 1 with bottoms up to most."""
    return [(a, b) for b in range(2, most + 1) for a in range(1, b) if gcd(a, b) == 1]


def as_pair(worth):
    return (worth.numerator, worth.denominator)


def all_rows(many):
    """All rows of many pours, in the order read from the last pour back, right first."""
    return [row[::-1] for row in product((RIGHT, LEFT), repeat=many)]


def end_of(parts, share, row):
    """The end of a row, by what is in both tubs, pour by pour."""
    p, q = Fraction(*parts[0]), Fraction(*parts[1])
    left, right = Fraction(*share), 1 - Fraction(*share)
    for pour in row:
        moved = p * left if pour == RIGHT else -q * right
        left, right = left - moved, right + moved
    assert left + right == 1
    return left


def beginning_of(parts, share, row):
    """The only number from which a row leads to share, also where it is no share.

    A row takes x to slope * x + start: slope and start are had from both ends.
    """
    start = end_of(parts, (0, 1), row)
    slope = end_of(parts, (1, 1), row) - start
    return (Fraction(*share) - start) / slope


def listed_rows_to(parts, share, many):
    """All pairs (row, beginning), by trying each row of many pours."""
    tried = [(row, beginning_of(parts, share, row)) for row in all_rows(many)]
    return [(row, as_pair(worth)) for row, worth in tried if 0 <= worth <= 1]


@cache
def listed_ends(parts, share, many, lefts):
    """All pairs (end, row) of the rows of many pours with so many lefts, by the ends."""
    rows = [row for row in all_rows(many) if lefts is None or row.count(LEFT) == lefts]
    return sorted((end_of(parts, share, row), row) for row in rows)


def all_lefts(many):
    """None, and every number of lefts that rows of many pours can have."""
    return (None,) + tuple(range(many + 1))


def wishes(parts, share, many):
    """Shares at the ends of rows, between two of them, and around all of them."""
    ends = [end for end, row in listed_ends(parts, share, many, None)]
    wished = ends + [(one + other) / 2 for one, other in zip(ends, ends[1:])]
    pairs = [as_pair(worth) for worth in wished] + list(SOME_SHARES) + list(LONG_SHARES)
    return [pair for pair in pairs if pair[1] <= TWENTY_NINES]


def listed_nearest(parts, share, many, lefts, wished):
    """The pair (row, how far), by trying each row."""
    far = [(abs(end - Fraction(*wished)), end, row) for end, row in listed_ends(parts, share, many, lefts)]
    distance, end, row = min(far)
    return (row, as_pair(distance))


def nested(depth, width):
    """Lists within one another, each holding the one below it width times."""
    thing = 1
    for _ in range(depth):
        thing = [thing] * width
    return thing


def nested_tuples(depth):
    thing = ()
    for _ in range(depth - 1):
        thing = (thing, thing)
    return thing


# Nothing here is parts, a share, a row, a number of pours or a place.
NOTHING = (
    None,
    True,
    False,
    -1,
    10**40 - 1,
    -(10**40 - 1),
    "",
    "right",
    "left",
    "~" * 100,
    " ",
    [],
    [[]],
    [0, 1],
    ["right"],
    ((),),
    (None,),
    (None, None),
    (True, False),
    (0, True),
    (False, 1),
    ("right", None),
    (0, 1, 1),
    ((1, 2), (1, 2), (1, 2)),
    nested(10, 1),
    nested(10, 100),
    nested_tuples(10),
    tuple([nested(9, 100)] * 100),
    (nested(9, 100), nested(9, 100)),
)
