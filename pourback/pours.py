"""Parts, shares and rows of pours, and the shares behind a row."""

from pourback.errors import NoMany, NoParts, NoRow, NoShare
from pourback.exact import is_fraction, is_pair, is_whole_up_to, lowest

RIGHT = "right"
LEFT = "left"
MOST_POURS = 40
MOST_PART_BOTTOM = 12
MOST_SHARE_BOTTOM = 99999999999999999999


def is_part(thing):
    """Tell whether thing may be one of two parts."""
    if not is_fraction(thing):
        return False
    top, bottom = thing
    return 0 < top < bottom <= MOST_PART_BOTTOM


def are_parts(thing):
    """Tell whether thing is parts (p, q)."""
    if not is_pair(thing):
        return False
    p, q = thing
    if not is_part(p) or not is_part(q):
        return False
    p_top, p_bottom = p
    q_top, q_bottom = q
    return p_top * q_bottom + q_top * p_bottom >= p_bottom * q_bottom


def is_share(thing):
    """Tell whether thing is a share that may be handed in."""
    if not is_fraction(thing):
        return False
    top, bottom = thing
    # The top is no more than the bottom, so it has no more figures either.
    return 0 <= top <= bottom <= MOST_SHARE_BOTTOM


def is_pour(thing):
    """Tell whether thing is a pour."""
    return thing == RIGHT or thing == LEFT


def is_row(thing):
    """Tell whether thing is a row."""
    if not isinstance(thing, tuple) or len(thing) > MOST_POURS:
        return False
    return all([is_pour(pour) for pour in thing])


# What is refused is not shown in the message: a thing that holds the same
# lists again and again is far longer written out than it is to look at.


def need_parts(parts):
    """Refuse what is no parts."""
    if not are_parts(parts):
        raise NoParts("parts are two fractions between 0 and 1, together at least 1")


def need_share(share):
    """Refuse what is no share."""
    if not is_share(share):
        raise NoShare("a share is a fraction from 0 to 1, in lowest terms")


def need_row(row):
    """Refuse what is no row."""
    if not is_row(row):
        raise NoRow("a row is a tuple of at most 40 pours, each right or left")


def need_many(many):
    """Refuse what is no number of pours of a row."""
    if not is_whole_up_to(many, MOST_POURS):
        raise NoMany("a number of pours is a whole number from 0 to 40")


def behind_right(p, share):
    """Tell the share behind p of the left tub poured to the right."""
    p_top, p_bottom = p
    top, bottom = share
    return lowest(top * (p_bottom - p_top), bottom * p_bottom)


def behind_left(q, share):
    """Tell the share behind q of the right tub poured to the left."""
    q_top, q_bottom = q
    top, bottom = share
    return lowest(top * q_bottom + (bottom - top) * q_top, bottom * q_bottom)


def behind_pour(parts, share, pour):
    """Tell the share behind one pour."""
    p, q = parts
    if pour == RIGHT:
        return behind_right(p, share)
    return behind_left(q, share)


def behind(parts, share, row):
    """Tell the share behind a row."""
    need_parts(parts)
    need_share(share)
    need_row(row)
    for pour in row:
        share = behind_pour(parts, share, pour)
    return share


def all_behind(parts, share, row):
    """Tell the shares behind each pour of a row, a list."""
    need_parts(parts)
    need_share(share)
    need_row(row)
    shares = []
    for pour in row:
        share = behind_pour(parts, share, pour)
        shares.append(share)
    return shares
