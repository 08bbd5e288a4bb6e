"""Rests: lots that a step leaves with the same chances, and the trees that they are sums of."""

from fadewalk.errors import NoRest
from fadewalk.lots import is_lot, least
from fadewalk.walks import Walk, refuse_no_place
from fadewalk.ways import shut_sets


def determinant(rows):
    """Tell the determinant of rows that have the weight of all steps away on the diagonal, and minus each elsewhere."""
    divider = 1
    while rows:
        top = rows[0]
        # A 0 here is of places gone through that lead to one another alone: then the determinant is 0, too.
        if top[0] == 0:
            return 0
        # The divider, the number ahead, divides all of these, so no fraction ever comes up.
        rows = [
            [(row[at] * top[0] - row[0] * top[at]) // divider for at in range(1, len(row))] for row in rows[1:]
        ]
        divider = top[0]
    return divider


def trees_toward(walk, place):
    """Tell the sum of the weights of all trees toward a place."""
    refuse_no_place(walk, place)
    others = [other for other in range(len(walk)) if other != place]
    return determinant([
        [walk.whole - walk.rows[x][x] if x == y else -walk.rows[x][y] for y in others] for x in others
    ])


def rest_on(walk, shut):
    """Tell the rest of a least shut set, in least weights."""
    within = Walk(tuple([tuple([walk.rows[x][y] for y in shut]) for x in shut]))
    weights = [0] * len(walk)
    for at, place in enumerate(shut):
        weights[place] = trees_toward(within, at)
    return least(tuple(weights))


def is_rest(walk, thing):
    """Tell whether a thing is a rest of the walk."""
    if not is_lot(thing) or len(thing) != len(walk):
        return False
    # A step makes the sum whole times as great, so the chances stay where each weight becomes so.
    return walk.after(thing) == tuple([weight * walk.whole for weight in thing])


def rests(walk):
    """Tell the tuple of rests, one for each least shut set, in order."""
    return tuple([rest_on(walk, shut) for shut in shut_sets(walk)])


def refuse_no_rest(walk):
    """Raise NoRest of a walk that is none of one rest."""
    if shut_sets(walk) != (tuple(range(len(walk))),):
        raise NoRest("the set of all places is no least shut one of the walk")


def one_rest(walk):
    """Tell the rest of a walk of one rest."""
    refuse_no_rest(walk)
    return rest_on(walk, tuple(range(len(walk))))
