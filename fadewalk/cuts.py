"""Slow cuts: sets of places that a walk leaves seldom, and how long they keep it from its rest."""

from fadewalk.errors import NoSet, TooMany
from fadewalk.numbers import is_less, plain_of
from fadewalk.rests import one_rest
from fadewalk.walks import refuse_no_set, refuse_no_steps

MOST_CUT = 8


def refuse_no_cut(walk, thing):
    """Raise NoSet of what is no set of places, or one of all of them."""
    refuse_no_set(walk, thing)
    if len(thing) == len(walk):
        raise NoSet("nothing flows out of the set of all places")


def weight_in(rest, places):
    """Tell the rest's weight of the places together."""
    return sum([rest[place] for place in places])


def flow_out(walk, rest, places):
    """Tell the flow out of a set, by the rest of the walk."""
    outside = [place for place in range(len(walk)) if place not in places]
    out = sum([rest[x] * walk.rows[x][y] for x in places for y in outside])
    return plain_of(out, weight_in(rest, places) * walk.whole)


def flow(walk, places):
    """Tell the fraction of the rest's weight of a set that leaves it in a step."""
    rest = one_rest(walk)
    refuse_no_cut(walk, places)
    return flow_out(walk, rest, places)


def sets_of(many):
    """Tell the sets of one place and more where there are so many, those of fewer places first, in order."""
    found = []
    grown = [(place,) for place in range(many)]
    while grown:
        found += grown
        grown = [places + (place,) for places in grown for place in range(places[-1] + 1, many)]
    return found


def slowest(walk):
    """Tell (fraction, set) of the least flow out of a set of no more than half the rest; None of one place."""
    rest = one_rest(walk)
    if len(walk) > MOST_CUT:
        raise TooMany(len(walk), MOST_CUT)
    best = None
    for places in sets_of(len(walk)):
        if weight_in(rest, places) * 2 <= sum(rest):
            out = flow_out(walk, rest, places)
            # A later set is of as many places and behind, or of more, so it has to flow out less.
            if best is None or is_less(out, best[0]):
                best = (out, places)
    return best


def cut_bound(walk, places, *, steps=1):
    """Tell how far at least the rest's lot on a set lies from the rest after so many steps."""
    rest = one_rest(walk)
    refuse_no_cut(walk, places)
    refuse_no_steps(steps)
    above, below = flow_out(walk, rest, places)
    outside = sum(rest) - weight_in(rest, places)
    return plain_of(max(outside * below - steps * above * sum(rest), 0), sum(rest) * below)
