"""Lots: the weights of places 0, 1, .. as tuples of whole numbers."""

from fadewalk.errors import NoLot, Unlike
from fadewalk.numbers import greatest_divider, is_whole

MOST_PLACES = 25


def are_weights(thing, many):
    """Tell whether a thing is a tuple of so many whole numbers from 0 on."""
    if not isinstance(thing, tuple) or len(thing) != many:
        return False
    return all([is_whole(weight) and weight >= 0 for weight in thing])


def are_rows(thing, many):
    """Tell whether a thing is a tuple of so many rows, each of so many weights."""
    if not isinstance(thing, tuple) or len(thing) != many:
        return False
    return all([are_weights(row, many) for row in thing])


def is_place(thing, many):
    """Tell whether a thing is a place where there are so many."""
    return is_whole(thing) and 0 <= thing < many


def is_rising(things):
    """Tell whether each thing of a tuple is greater than the one ahead."""
    return all([things[at - 1] < things[at] for at in range(1, len(things))])


def are_rising_places(thing, many):
    """Tell whether a thing is a rising tuple of places, be it empty, where there are so many."""
    if not isinstance(thing, tuple) or not all([is_place(place, many) for place in thing]):
        return False
    return is_rising(thing)


def is_set(thing, many):
    """Tell whether a thing is a rising tuple of one place and more where there are so many."""
    return are_rising_places(thing, many) and len(thing) > 0


def is_lot(thing):
    """Tell whether a thing is a lot."""
    if not isinstance(thing, tuple) or not 1 <= len(thing) <= MOST_PLACES:
        return False
    return are_weights(thing, len(thing)) and any(thing)


def refuse_no_lot(thing):
    """Raise NoLot of what is none."""
    if not is_lot(thing):
        raise NoLot(f"a lot is a tuple of one to {MOST_PLACES} whole numbers from 0 on, not all 0")


def refuse_unlike_lots(one, other):
    """Raise NoLot where either is no lot, then Unlike where they are not of as many places."""
    refuse_no_lot(one)
    refuse_no_lot(other)
    if len(one) != len(other):
        raise Unlike("the lots are not of as many places")


def least(lot):
    """Tell the lot of the same chances whose weights no number from 2 on divides all."""
    refuse_no_lot(lot)
    divider = 0
    for weight in lot:
        divider = greatest_divider(divider, weight)
    return tuple([weight // divider for weight in lot])


def are_alike(one, other):
    """Tell whether two lots of as many places have the same chances."""
    refuse_unlike_lots(one, other)
    return least(one) == least(other)
