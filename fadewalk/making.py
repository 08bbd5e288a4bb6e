"""Walks made of walks."""

from fadewalk.errors import NoNumber, NoSteps, TooMany
from fadewalk.lots import MOST_PLACES
from fadewalk.numbers import greatest_divider, is_whole
from fadewalk.walks import Walk


def refuse_less(thing, low):
    """Raise NoNumber of what is no whole number from low on."""
    if not is_whole(thing) or thing < low:
        raise NoNumber(f"the number is to be a whole one from {low} on")


def plainest(walk):
    """Tell the walk with all weights divided by the greatest number that divides all of them."""
    divider = 0
    for row in walk.rows:
        for weight in row:
            divider = greatest_divider(divider, weight)
    return Walk(tuple([tuple([weight // divider for weight in row]) for row in walk.rows]))


def lazy(walk, stay=1, go=1):
    """Tell the walk that stays in so many cases of stay and go together, and else steps as this one."""
    refuse_less(stay, 0)
    refuse_less(go, 1)
    rows = [[weight * go for weight in row] for row in walk.rows]
    for place in range(len(walk)):
        rows[place][place] += stay * walk.whole
    return Walk(tuple([tuple(row) for row in rows]))


def folded(walk, steps):
    """Tell the walk whose one step is so many steps of this one."""
    if steps == 0:
        raise NoSteps("no step at all can't be one step")
    return Walk(walk.power(steps))


def beside(one, other):
    """Tell the walk of two side by side, place x times the second's places and y for x and y."""
    many = len(one) * len(other)
    if many > MOST_PLACES:
        raise TooMany(many, MOST_PLACES)
    return Walk(tuple([
        tuple([weight * further for weight in row for further in beyond])
        for row in one.rows for beyond in other.rows
    ]))
