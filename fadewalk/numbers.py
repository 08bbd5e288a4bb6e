"""Whole numbers, and fractions as tuples (above, below) of them."""

from fadewalk.errors import NoFraction


def is_whole(thing):
    """Tell whether a thing is a whole number."""
    # Python counts True and False among the ints; here they are truths alone.
    return isinstance(thing, int) and not isinstance(thing, bool)


def greatest_divider(one, other):
    """Tell the greatest number that divides both, which are from 0 on; 0 where both are 0."""
    while other:
        one, other = other, one % other
    return one


def least_multiple(one, other):
    """Tell the least number from 1 on that both, which are from 1 on, divide."""
    return one // greatest_divider(one, other) * other


def is_fraction(thing):
    """Tell whether a thing is a fraction, plain or not."""
    if not isinstance(thing, tuple) or len(thing) != 2:
        return False
    return is_whole(thing[0]) and is_whole(thing[1]) and thing[1] >= 1


def refuse_no_fraction(thing):
    """Raise NoFraction of what is none."""
    if not is_fraction(thing):
        raise NoFraction("a fraction is a tuple of two whole numbers, the second from 1 on")


def plain_of(above, below):
    """Tell the plain fraction of a number above and one below, from 1 on."""
    divider = greatest_divider(abs(above), below)
    return (above // divider, below // divider)


def plain(fraction):
    """Tell the plain fraction that is worth the same."""
    refuse_no_fraction(fraction)
    above, below = fraction
    return plain_of(above, below)


def added(one, other):
    """Tell the sum of two fractions."""
    refuse_no_fraction(one)
    refuse_no_fraction(other)
    return plain_of(one[0] * other[1] + other[0] * one[1], one[1] * other[1])


def multiplied(one, other):
    """Tell the product of two fractions."""
    refuse_no_fraction(one)
    refuse_no_fraction(other)
    return plain_of(one[0] * other[0], one[1] * other[1])


def is_less(one, other):
    """Tell whether the first fraction is less than the second."""
    refuse_no_fraction(one)
    refuse_no_fraction(other)
    # Both numbers below are above 0, so multiplying by them keeps the order.
    return one[0] * other[1] < other[0] * one[1]
