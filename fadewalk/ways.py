"""Ways of a walk: where they lead, the sets that none leaves, and the turn of these."""

from fadewalk.errors import NoSet
from fadewalk.lots import are_rising_places, is_place
from fadewalk.numbers import greatest_divider


def is_way(walk, thing):
    """Tell whether a thing is a way of the walk."""
    if not isinstance(thing, tuple) or not thing or not all([is_place(place, len(walk)) for place in thing]):
        return False
    return all([walk.rows[thing[at - 1]][thing[at]] > 0 for at in range(1, len(thing))])


def next_places(walk):
    """Tell for each place the rising tuple of those to which a step leads."""
    return [tuple([place for place, weight in enumerate(row) if weight > 0]) for row in walk.rows]


def fewest_steps(nexts, start):
    """Tell, of each place to which some way leads from the start, the steps of a shortest one."""
    steps = {start: 0}
    waiting = [start]
    while waiting:
        place = waiting.pop(0)
        for following in nexts[place]:
            if following not in steps:
                steps[following] = steps[place] + 1
                waiting.append(following)
    return steps


def led_to(walk):
    """Tell for each place the rising tuple of those to which some way leads."""
    nexts = next_places(walk)
    return tuple([tuple(sorted(fewest_steps(nexts, start))) for start in range(len(walk))])


def shut_sets(walk):
    """Tell the rising tuple of the least shut sets."""
    led = led_to(walk)
    # A least shut set is just what ways lead to from each of its places.
    return tuple(sorted({places for places in led if all([led[place] == places for place in places])}))


def refuse_no_shut(walk, thing):
    """Raise NoSet of what is no least shut set of the walk."""
    # A tuple of truths is == to one of places, so being in the told ones is not enough.
    if not are_rising_places(thing, len(walk)) or thing not in shut_sets(walk):
        raise NoSet("the set is no least shut one of the walk")


def turn_of(walk, shut):
    """Tell the greatest number that divides the steps of each way round within a least shut set."""
    refuse_no_shut(walk, shut)
    nexts = next_places(walk)
    steps = fewest_steps(nexts, shut[0])
    turn = 0
    # A shortest way with this step behind it, and a shortest way, are both closed by one way back: so the turn
    # divides by how much they differ, and any way round is put together of such steps.
    for place in shut:
        for following in nexts[place]:
            turn = greatest_divider(turn, steps[place] + 1 - steps[following])
    return turn


def sides_of(walk, shut):
    """Tell the sides of a least shut set, the first with its first place, each leading to the next."""
    turn = turn_of(walk, shut)
    steps = fewest_steps(next_places(walk), shut[0])
    return tuple([tuple([place for place in shut if steps[place] % turn == side]) for side in range(turn)])
