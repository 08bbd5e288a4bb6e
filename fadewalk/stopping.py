"""Stopping: how far a start's lot falls short of the rest, and plans by which walkers stop."""

from fadewalk.errors import NoPlan
from fadewalk.lots import are_weights
from fadewalk.numbers import is_less, is_whole, least_multiple, plain, plain_of
from fadewalk.rests import one_rest, refuse_no_rest
from fadewalk.walks import lot_at, refuse_no_place, refuse_no_steps, stepped


def share_of(rest, lot):
    """Tell the greatest fraction by which the rest's weights may be multiplied so that none is above the lot's."""
    share = (lot[0], rest[0])
    for held in zip(lot, rest):
        if is_less(held, share):
            share = held
    return plain(share)


def separation(walk, start, *, steps=1):
    """Tell the greatest fraction by which a place's chance falls short of the rest's after so many steps."""
    rest = one_rest(walk)
    refuse_no_place(walk, start)
    lot = walk.after(lot_at(start, len(walk)), steps=steps)
    above, below = share_of(rest, lot)
    # The share of the rest that lies within the lot is all that doesn't fall short.
    return plain_of(below * sum(lot) - above * sum(rest), below * sum(lot))


def has_form(walk, thing):
    """Tell whether a thing is a tuple of a scale and one row of weights and more, as a plan is."""
    if not isinstance(thing, tuple) or len(thing) != 2:
        return False
    scale, rows = thing
    if not is_whole(scale) or scale < 1 or not isinstance(rows, tuple) or len(rows) == 0:
        return False
    return all([are_weights(row, len(walk)) for row in rows])


def left_standing(walk, start, plan):
    """Tell for each row what stands at each place behind it; below 0 where more should stop than stands there."""
    scale, rows = plan
    standing = [scale * weight for weight in lot_at(start, len(walk))]
    left = []
    for row in rows:
        left.append([weight - stops for weight, stops in zip(standing, row)])
        standing = stepped(walk.rows, left[-1])
    return left


def is_plan(walk, start, thing):
    """Tell whether a thing is a plan of the start."""
    refuse_no_rest(walk)
    refuse_no_place(walk, start)
    if not has_form(walk, thing):
        return False
    return all([min(weights) >= 0 for weights in left_standing(walk, start, thing)])


def is_fair(walk, start, thing):
    """Tell whether a thing is a fair plan of the start."""
    if not is_plan(walk, start, thing):
        return False
    rest = one_rest(walk)
    # No weight of the rest is 0, so it is enough to hold each place against the first.
    return all([row[at] * rest[0] == row[0] * rest[at] for row in thing[1] for at in range(len(rest))])


def stopped(walk, start, plan):
    """Tell for each row of a plan the fraction of what has stopped by it."""
    if not is_plan(walk, start, plan):
        raise NoPlan("a plan is a tuple of a scale and rows, by which nowhere more stops than stands there")
    told = []
    whole = plan[0]
    for weights in left_standing(walk, start, plan):
        told.append(plain_of(whole - sum(weights), whole))
        whole *= walk.whole
    return tuple(told)


def shares_by_steps(walk, rest, start, steps):
    """Tell for 0 steps and more, up to so many, the share of the rest that lies within the start's lot."""
    lot = lot_at(start, len(walk))
    shares = [share_of(rest, lot)]
    for step in range(steps):
        lot = stepped(walk.rows, lot)
        shares.append(share_of(rest, lot))
    return shares


def fair_plan(walk, start, *, steps=1):
    """Tell a fair plan of so many steps in which as much has stopped by each row as any fair one can stop."""
    rest = one_rest(walk)
    refuse_no_place(walk, start)
    refuse_no_steps(steps)
    shares = shares_by_steps(walk, rest, start, steps)
    scale = 1
    for above, below in shares:
        scale = least_multiple(scale, below)
    rows = []
    ahead = 0
    for above, below in shares:
        # What stopped ahead is the rest in small; it would have stepped on to be the same, whole times as great.
        held = scale // below * above
        rows.append(tuple([(held - ahead) * weight for weight in rest]))
        ahead = held * walk.whole
    return (scale, tuple(rows))
