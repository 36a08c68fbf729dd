"""Pours told back: which rows led to a share, the fewest pours, an unseen pour."""

from pourback.errors import NoPlace
from pourback.exact import is_whole_up_to, lowest
from pourback.pours import LEFT, MOST_POURS, RIGHT, behind
from pourback.pours import need_many, need_parts, need_row, need_share


def need_place(row, place):
    """Refuse what is no place of the row."""
    if not is_whole_up_to(place, len(row) - 1):
        raise NoPlace("a place is a whole number from 0 to below the length of the row")


def ahead_of_right(p, share):
    """Tell the share ahead of a pour to the right that led to share, or None."""
    p_top, p_bottom = p
    top, bottom = share
    ahead_top = top * p_bottom
    ahead_bottom = bottom * (p_bottom - p_top)
    if ahead_top > ahead_bottom:
        return None
    return lowest(ahead_top, ahead_bottom)


def ahead_of_left(q, share):
    """Tell the share ahead of a pour to the left that led to share, or None."""
    q_top, q_bottom = q
    top, bottom = share
    ahead_top = top * q_bottom - bottom * q_top
    if ahead_top < 0:
        return None
    return lowest(ahead_top, bottom * (q_bottom - q_top))


def one_pour_back(parts, pair):
    """Tell the pairs (row, beginning) that are one pour longer than a pair."""
    p, q = parts
    row, beginning = pair
    longer = []
    by_right = ahead_of_right(p, beginning)
    if by_right is not None:
        longer.append(((RIGHT,) + row, by_right))
    by_left = ahead_of_left(q, beginning)
    if by_left is not None:
        longer.append(((LEFT,) + row, by_left))
    return longer


def all_one_pour_back(parts, pairs):
    """Tell the pairs one pour longer than pairs, in the order of pairs."""
    # Both pours can lead to one share only where p and q are together just 1:
    # right from 1, left from 0. Ahead of 1 there is 1 alone, ahead of 0 there
    # is 0 alone: so there are never more than two pairs.
    longer = []
    for pair in pairs:
        longer.extend(one_pour_back(parts, pair))
    return longer


def rows_to(parts, share, many):
    """Tell all rows of many pours that lead to share, a list of pairs (row, beginning)."""
    need_parts(parts)
    need_share(share)
    need_many(many)
    pairs = [((), share)]
    for step in range(many):
        pairs = all_one_pour_back(parts, pairs)
    return pairs


def fewest_to(parts, share, other):
    """Tell the row of the fewest pours that leads from share to other, or None."""
    need_parts(parts)
    need_share(share)
    need_share(other)
    pairs = [((), other)]
    for step in range(MOST_POURS + 1):
        for row, beginning in pairs:
            if beginning == share:
                return row
        pairs = all_one_pour_back(parts, pairs)
    return None


def unseen(parts, share, row, place, other):
    """Tell the pour at a place of the row that led from share to other, or None."""
    need_parts(parts)
    need_share(share)
    need_row(row)
    need_place(row, place)
    need_share(other)
    for pour in (RIGHT, LEFT):
        if behind(parts, share, row[:place] + (pour,) + row[place + 1:]) == other:
            return pour
    return None
