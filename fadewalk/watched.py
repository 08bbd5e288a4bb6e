"""Watched walks: what is seen of a walk at a few of its places alone."""

from fadewalk.making import plainest
from fadewalk.numbers import plain_of
from fadewalk.rests import refuse_no_rest
from fadewalk.walks import Walk, lot_at, refuse_no_place, refuse_no_set, refuse_no_steps, stepped


def left_out(walk, place):
    """Tell the plainest walk of the other places that goes from one to the next with no word of this place."""
    rows = walk.rows
    others = [other for other in range(len(walk)) if other != place]
    # However long one stays at the place, one leaves it at last, in so many of the cases to each other one.
    leaving = walk.whole - rows[place][place]
    return plainest(Walk(tuple([
        tuple([rows[x][y] * leaving + rows[x][place] * rows[place][y] for y in others]) for x in others
    ])))


def watched(walk, places):
    """Tell the plainest walk of the places, from one to the next one of them at which the walk is."""
    refuse_no_rest(walk)
    refuse_no_set(walk, places)
    seen = plainest(walk)
    # From the last place down, so that those that are still to come keep their numbers.
    for place in reversed(range(len(walk))):
        if place not in places:
            seen = left_out(seen, place)
    return seen


def kept_off(lot, places):
    """Tell the weights of a lot with 0 at the places."""
    return tuple([0 if place in places else weight for place, weight in enumerate(lot)])


def missed(walk, places, start, *, steps=1):
    """Tell the fraction of cases in which the walk has been at none of the places, from the start on."""
    refuse_no_set(walk, places)
    refuse_no_place(walk, start)
    refuse_no_steps(steps)
    lot = kept_off(lot_at(start, len(walk)), places)
    whole = 1
    for step in range(steps):
        lot = kept_off(stepped(walk.rows, lot), places)
        whole *= walk.whole
    return plain_of(sum(lot), whole)
