"""Whether a walk forgets where it began: by ways that meet in one place, or by rings that never do."""

from fadewalk.lots import is_place, is_set
from fadewalk.numbers import is_whole
from fadewalk.ways import is_way, next_places, shut_sets, sides_of


def is_meeting(walk, thing):
    """Tell whether a thing is a meeting of the walk."""
    if not isinstance(thing, tuple) or len(thing) != 3:
        return False
    steps, place, ways = thing
    if not is_whole(steps) or not is_place(place, len(walk)):
        return False
    if not isinstance(ways, tuple) or len(ways) != len(walk) or not all([is_way(walk, way) for way in ways]):
        return False
    ends = [(len(way) - 1, way[0], way[-1]) for way in ways]
    return ends == [(steps, start, place) for start in range(len(walk))]


def is_ring(walk, thing):
    """Tell whether a thing is a tuple of sets of places, each of which all steps leave for the next one."""
    if not isinstance(thing, tuple) or not thing:
        return False
    if not all([is_set(places, len(walk)) for places in thing]):
        return False
    nexts = next_places(walk)
    for at in range(len(thing)):
        # Ahead of the first set, at -1, stands the last.
        followings = [following for place in thing[at - 1] for following in nexts[place]]
        if not all([following in thing[at] for following in followings]):
            return False
    return True


def are_rings(walk, thing):
    """Tell whether a thing is rings of the walk."""
    if not isinstance(thing, tuple) or len(thing) != 2:
        return False
    one, other = thing
    if not is_ring(walk, one) or not is_ring(walk, other) or len(one) != len(other):
        return False
    return not any([place in places for places, others in zip(one, other) for place in others])


def ends_of_longer(nexts, ends):
    """Tell for each start where ways of one step more end, of where those of so many steps do."""
    return [sorted({end for following in followings for end in ends[following]}) for followings in nexts]


def in_common(ends):
    """Tell the places at which ways from all starts end, rising."""
    return [place for place in ends[0] if all([place in places for places in ends])]


def longer_ways(nexts, ways):
    """Tell for each start that a step leads to one of the ways from the way that begins with it."""
    longer = {}
    for start, followings in enumerate(nexts):
        onward = [following for following in followings if following in ways]
        if onward:
            longer[start] = (start,) + ways[onward[0]]
    return longer


def first_meeting(walk):
    """Tell a meeting of the fewest steps, of these at the first place, of a walk that has meetings."""
    nexts = next_places(walk)
    ends = [[start] for start in range(len(walk))]
    steps = 0
    while not in_common(ends):
        ends = ends_of_longer(nexts, ends)
        steps += 1
    place = in_common(ends)[0]
    ways = {place: (place,)}
    for step in range(steps):
        ways = longer_ways(nexts, ways)
    return (steps, place, tuple([ways[start] for start in range(len(walk))]))


def forgets(walk):
    """Tell ("yes", meeting) where the walk forgets, and ("no", rings) where it doesn't."""
    shut = shut_sets(walk)
    if len(shut) > 1:
        return ("no", ((shut[0],), (shut[1],)))
    sides = sides_of(walk, shut[0])
    if len(sides) > 1:
        return ("no", (sides, sides[1:] + sides[:1]))
    return ("yes", first_meeting(walk))
