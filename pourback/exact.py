"""Whole numbers, and fractions as tuples (top, bottom) in lowest terms."""

NOUGHT = (0, 1)
ONE = (1, 1)


def is_whole(thing):
    """Tell whether thing is a whole number."""
    # True and False are ints to Python, but no numbers here.
    return isinstance(thing, int) and not isinstance(thing, bool)


def is_whole_up_to(thing, most):
    """Tell whether thing is a whole number from 0 to most."""
    return is_whole(thing) and 0 <= thing <= most


def common_divisor(one, other):
    """Tell the greatest common divisor of two whole numbers from 0 on."""
    while other > 0:
        one, other = other, one % other
    return one


def lowest(top, bottom):
    """Tell the fraction of a top from 0 on and a bottom from 1 on."""
    divisor = common_divisor(top, bottom)
    return (top // divisor, bottom // divisor)


def is_pair(thing):
    """Tell whether thing is a tuple of two."""
    return isinstance(thing, tuple) and len(thing) == 2


def is_fraction(thing):
    """Tell whether thing is a fraction."""
    if not is_pair(thing):
        return False
    top, bottom = thing
    if not is_whole(top) or not is_whole(bottom) or bottom < 1:
        return False
    return common_divisor(abs(top), bottom) == 1


def is_less(one, other):
    """Tell whether a fraction is worth less than another one."""
    return one[0] * other[1] < other[0] * one[1]


def apart(one, other):
    """Tell how far two fractions are from one another."""
    return lowest(abs(one[0] * other[1] - other[0] * one[1]), one[1] * other[1])


def together(one, other):
    """Tell the sum of two fractions from 0 on."""
    return lowest(one[0] * other[1] + other[0] * one[1], one[1] * other[1])
