"""Lumped walks: places taken together where a walk goes on alike from all of them."""

from fadewalk.apart import pairs_of
from fadewalk.errors import NoParts
from fadewalk.lots import is_rising, is_set
from fadewalk.walks import Walk


def are_parts(thing, many):
    """Tell whether a thing is parts where there are so many places."""
    if not isinstance(thing, tuple) or not all([is_set(part, many) for part in thing]):
        return False
    together = [place for part in thing for place in part]
    return sorted(together) == list(range(many)) and is_rising(thing)


def refuse_no_parts(walk, thing):
    """Raise NoParts of what is no parts of the walk."""
    if not are_parts(thing, len(walk)):
        raise NoParts("parts are a rising tuple of rising tuples of places, each place in one of them")


def weights_into(walk, parts, place):
    """Tell the weights from a place into each part, together."""
    return tuple([sum([walk.rows[place][other] for other in part]) for part in parts])


def first_unlike(one, other):
    """Tell the first number at which two tuples of as many things differ."""
    return [at for at in range(len(one)) if one[at] != other[at]][0]


def lumps(walk, parts):
    """Tell ("yes", walk of parts) where the walk lumps by them, and ("no", x, y, number of a part) where not."""
    refuse_no_parts(walk, parts)
    into = [weights_into(walk, parts, place) for place in range(len(walk))]
    unlike = [(x, y) for part in parts for x, y in pairs_of(part) if into[x] != into[y]]
    if unlike:
        x, y = min(unlike)
        return ("no", x, y, first_unlike(into[x], into[y]))
    return ("yes", Walk(tuple([into[part[0]] for part in parts])))


def split_parts(walk, parts):
    """Tell the parts with those places alone left together that have the same weights into the parts."""
    groups = {}
    for number, part in enumerate(parts):
        for place in part:
            groups.setdefault((number, weights_into(walk, parts, place)), []).append(place)
    return tuple(sorted([tuple(group) for group in groups.values()]))


def fewest_parts(walk, parts):
    """Tell the fewest parts by which the walk lumps, each within one of those handed in."""
    refuse_no_parts(walk, parts)
    # Places that any such parts hold together are never split, so the first parts that stay are the fewest.
    finer = split_parts(walk, parts)
    while finer != parts:
        parts = finer
        finer = split_parts(walk, parts)
    return parts
