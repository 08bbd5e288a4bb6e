"""Whether a walk looks alike backward, slips that show it doesn't, and the walk turned about."""

from fadewalk.errors import TooMany
from fadewalk.lots import is_place
from fadewalk.making import plainest
from fadewalk.numbers import least_multiple
from fadewalk.rests import one_rest
from fadewalk.walks import Walk

MOST_LOOKED_AT = 6


def weight_round(walk, places):
    """Tell the weights of the steps round the places, multiplied."""
    weight = 1
    for at in range(len(places)):
        # Ahead of the first place, at -1, stands the last.
        weight *= walk.rows[places[at - 1]][places[at]]
    return weight


def is_slip(walk, thing):
    """Tell whether a thing is a slip of the walk."""
    if not isinstance(thing, tuple) or len(thing) < 3:
        return False
    if not all([is_place(place, len(walk)) for place in thing]) or len(set(thing)) != len(thing):
        return False
    return weight_round(walk, thing) != weight_round(walk, thing[::-1])


def first_slip(walk):
    """Tell a slip of a walk that has some, of the fewest places."""
    rounds = [(place,) for place in range(len(walk))]
    slips = []
    while not slips:
        # Each round is a slip wherever it begins, so those that begin with their least place are enough.
        rounds = [
            places + (place,) for places in rounds for place in range(places[0] + 1, len(walk)) if place not in places
        ]
        slips = [places for places in rounds if is_slip(walk, places)]
    return slips[0]


def is_balanced(walk, rest):
    """Tell whether by the rest as much goes from each place to each other one as goes back."""
    many = len(walk)
    return all([rest[x] * walk.rows[x][y] == rest[y] * walk.rows[y][x] for x in range(many) for y in range(x)])


def looks_alike(walk):
    """Tell ("yes", rest) where a walk of one rest looks alike backward, and ("no", slip) where it doesn't."""
    rest = one_rest(walk)
    if len(walk) > MOST_LOOKED_AT:
        raise TooMany(len(walk), MOST_LOOKED_AT)
    if is_balanced(walk, rest):
        return ("yes", rest)
    return ("no", first_slip(walk))


def turned(walk):
    """Tell the plainest walk that goes backward what a walk of one rest goes."""
    rest = one_rest(walk)
    common = 1
    for weight in rest:
        common = least_multiple(common, weight)
    # Rows of unlike weights of the rest come to one sum where each is brought to their common multiple.
    many = len(walk)
    return plainest(Walk(tuple([
        tuple([rest[y] * walk.rows[y][x] * (common // rest[x]) for y in range(many)]) for x in range(many)
    ])))
