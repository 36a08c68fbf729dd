"""Near enough: the fewest pours to a wished share, and rows poured again and again."""

from pourback.errors import NoDistance, NoRow
from pourback.exact import NOUGHT, ONE, apart, is_less, lowest
from pourback.orders import nearest
from pourback.pours import behind, is_share, need_parts, need_row, need_share

MOST_POURS_NEAR = 20


def need_distance(distance):
    """Refuse what is no distance."""
    if not is_share(distance) or distance == NOUGHT:
        raise NoDistance("a distance is a share above 0")


def need_row_of_some(row):
    """Refuse what is no row, and a row of none."""
    need_row(row)
    if len(row) == 0:
        raise NoRow("a row that is poured again and again has at least one pour")


def near_enough(parts, share, wished, distance):
    """Tell the row of the fewest pours that leads near enough to the wished share, or None."""
    need_parts(parts)
    need_share(share)
    need_share(wished)
    need_distance(distance)
    for many in range(MOST_POURS_NEAR + 1):
        row, far = nearest(parts, share, many, None, wished)
        if not is_less(distance, far):
            return row
    return None


def goes_to(parts, row):
    """Tell the share to which a row goes that is poured again and again."""
    need_parts(parts)
    need_row_of_some(row)
    # A row takes a share x to low + (high - low) * x, low and high being what
    # it makes of 0 and of 1. So x stays where x * (low + 1 - high) is low.
    low_top, low_bottom = behind(parts, NOUGHT, row)
    high_top, high_bottom = behind(parts, ONE, row)
    low = low_top * high_bottom
    rest = (high_bottom - high_top) * low_bottom
    return lowest(low, low + rest)


def times_till(parts, share, row, distance):
    """Tell the least number of times behind which a row brings a share near enough."""
    need_parts(parts)
    need_share(share)
    need_row_of_some(row)
    need_distance(distance)
    far = apart(share, goes_to(parts, row))
    # Each time so much remains of how far any two shares are from one another.
    top, bottom = apart(behind(parts, NOUGHT, row), behind(parts, ONE, row))
    times = 0
    while is_less(distance, far):
        far = (far[0] * top, far[1] * bottom)
        times += 1
    return times
