"""When all starts of a walk lie within a bound, shown from both sides by a voucher."""

from fadewalk.apart import are_joinings, farthest_of, least_joinings, more_in, parted, places_of_more
from fadewalk.errors import NoBound
from fadewalk.forgetting import forgets
from fadewalk.lots import are_rising_places, is_place
from fadewalk.numbers import is_fraction, is_less
from fadewalk.walks import refuse_no_steps, stepped


def refuse_no_bound(thing):
    """Raise NoBound of what is none."""
    if not is_fraction(thing) or not 0 <= thing[0] < thing[1]:
        raise NoBound("a bound is a fraction from 0 up, less than 1")


def is_beyond(bound, part, lot):
    """Tell whether a part of a lot's sum is more than the bound of it."""
    return part * bound[1] > bound[0] * sum(lot)


def show_near(lots, bound, thing):
    """Tell whether a thing is joinings of all pairs of lots, none with more parted than the bound of the sum."""
    if not are_joinings(lots, thing):
        return False
    return not any([is_beyond(bound, parted(joining), lots[0]) for joining in thing])


def show_far(lots, bound, thing):
    """Tell whether a tuple (place, other, set) shows that the lots of two places lie farther apart than the bound."""
    place, other, places = thing
    many = len(lots)
    if not is_place(place, many) or not is_place(other, many) or not are_rising_places(places, many):
        return False
    return is_beyond(bound, more_in(lots[place], lots[other], places), lots[place])


def is_voucher(walk, bound, steps, thing):
    """Tell whether a thing is a voucher of the walk, the bound and the steps."""
    refuse_no_bound(bound)
    refuse_no_steps(steps)
    if not isinstance(thing, tuple) or len(thing) != 4 or not show_near(walk.power(steps), bound, thing[0]):
        return False
    if steps == 0:
        return all([part is None for part in thing[1:]])
    return show_far(walk.power(steps - 1), bound, thing[1:])


def first_within(walk, bound, *, most=60):
    """Tell when all starts first lie within the bound: "at" some steps, "later" than most, or "never"."""
    refuse_no_bound(bound)
    refuse_no_steps(most)
    answer, shown = forgets(walk)
    if answer == "no":
        return ("never", shown)
    lots = walk.power(0)
    far = (None, None, None)
    for steps in range(most + 1):
        gap, place, other = farthest_of(lots)
        if not is_less(bound, gap):
            return ("at", steps, (least_joinings(lots),) + far)
        far = (place, other, places_of_more(lots[place], lots[other]))
        lots = [stepped(walk.rows, lot) for lot in lots]
    return ("later",) + far
