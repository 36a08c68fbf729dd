"""Rows in the order of the shares at which they end."""

# Behind a pour to the right there is at most 1 - p in the left tub, behind one
# to the left at least q, and q is no less than 1 - p. So the last pour decides
# which of two rows ends at the lesser share, then the one ahead of it, and so
# on: the order of the ends hangs neither on the parts nor on the beginning.

from pourback.back import ahead_of_left, ahead_of_right
from pourback.errors import NoLefts, NoNumber
from pourback.exact import ONE, apart, is_less, is_whole_up_to
from pourback.pours import LEFT, RIGHT, behind, need_many, need_parts, need_row, need_share


def need_lefts(many, lefts):
    """Refuse what is neither None nor a number of lefts of many pours."""
    if lefts is not None and not is_whole_up_to(lefts, many):
        raise NoLefts("lefts are None or a whole number from 0 to the number of pours")


def need_number(many, lefts, number):
    """Refuse what is no number of a row of many pours and so many lefts."""
    if not is_whole_up_to(number, rows_among(many, lefts) - 1):
        raise NoNumber("a number is a whole number from 0 to below how many rows there are")


def need_any_lefts(any_lefts):
    """Refuse what is neither True nor False."""
    if not isinstance(any_lefts, bool):
        raise NoLefts("whether rows of any lefts are meant is True or False")


def rows_among(many, lefts):
    """Tell how many rows of many pours there are, none of lefts that cannot be."""
    if lefts is None:
        return 1 << many
    if not 0 <= lefts <= many:
        return 0
    rows = 1
    for chosen in range(lefts):
        rows = rows * (many - chosen) // (chosen + 1)
    return rows


def one_left_fewer(lefts):
    """Tell the lefts that remain to the pours ahead of one to the left."""
    if lefts is None:
        return None
    return lefts - 1


def how_many(many, lefts):
    """Tell how many rows of many pours there are, with so many lefts, or of any."""
    need_many(many)
    need_lefts(many, lefts)
    return rows_among(many, lefts)


def row_of(many, lefts, number):
    """Tell the row of a number."""
    need_many(many)
    need_lefts(many, lefts)
    need_number(many, lefts, number)
    row = ()
    for ahead in reversed(range(many)):
        by_right = rows_among(ahead, lefts)
        if number < by_right:
            row = (RIGHT,) + row
        else:
            number -= by_right
            row = (LEFT,) + row
            lefts = one_left_fewer(lefts)
    return row


def number_of(row, any_lefts):
    """Tell the number of a row, among those of as many lefts or of any."""
    need_row(row)
    need_any_lefts(any_lefts)
    lefts = None if any_lefts else row.count(LEFT)
    number = 0
    for ahead in reversed(range(len(row))):
        if row[ahead] == LEFT:
            number += rows_among(ahead, lefts)
            lefts = one_left_fewer(lefts)
    return number


def at_most(parts, share, many, lefts, wished):
    """Tell how many rows of many pours from share end at most at the wished share."""
    need_parts(parts)
    need_share(share)
    need_many(many)
    need_lefts(many, lefts)
    need_share(wished)
    p, q = parts
    rows = 0
    for ahead in reversed(range(many)):
        by_left = ahead_of_left(q, wished)
        if by_left is None:
            # No pour to the left ends so low. Where no share is too great to
            # end here by one to the right, all are meant.
            by_right = ahead_of_right(p, wished)
            wished = ONE if by_right is None else by_right
        else:
            # Every pour to the right ends at most here.
            rows += rows_among(ahead, lefts)
            lefts = one_left_fewer(lefts)
            wished = by_left
    if is_less(wished, share):
        return rows
    return rows + rows_among(0, lefts)


def nearest(parts, share, many, lefts, wished):
    """Tell the pair (row, how far) of the row that ends nearest to the wished share."""
    # What is none is refused here: at_most has the same arguments.
    first_beyond = at_most(parts, share, many, lefts, wished)
    best = None
    for number in (first_beyond - 1, first_beyond):
        if is_whole_up_to(number, rows_among(many, lefts) - 1):
            row = row_of(many, lefts, number)
            far = apart(behind(parts, share, row), wished)
            if best is None or is_less(far, best[1]):
                best = (row, far)
    return best
