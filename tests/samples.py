"""Things of many kinds that tests hand in; not a test itself."""

import itertools
import math
import random
import unittest
from fractions import Fraction

from fadewalk.walks import Walk

GREAT = 999999999999


class Refusals(unittest.TestCase):
    """What tests of refusals stand under."""

    def assert_refused(self, kind, deed, *things, **named):
        with self.assertRaises(kind) as taken:
            deed(*things, **named)
        self.assertIs(type(taken.exception), kind)
        return taken.exception


def deep_list(depth):
    """A list within a list, so many deep."""
    thing = []
    for at in range(depth - 1):
        thing = [thing]
    return thing


def no_tuples():
    """Things that are no tuple at all, made anew for each asker."""
    return [
        None, True, False, 0, 1, -1, 999999999999, "", "a", "(1, 2)", "1/2", "\t\n ~", "x" * 200,
        [], [1], [1, 2], [[1, 2]], [(1, 2)], {}, {1: 2}, {"above": 1, "below": 2}, {(1, 2): (1, 2)},
        {0: 1, 1: 2}, {None: True}, deep_list(12), [0] * 39999, [1] * 25,
    ]


def no_numbers():
    """Things that are no whole number, made anew for each asker."""
    return [None, True, False, "", "1", "12", [], [1], (), (1,), (1, 2), {}, {1: 1}, deep_list(11)]


def no_steps():
    """Things that are no steps, made anew for each asker."""
    return no_numbers() + [-1, 101, -GREAT, GREAT]


def no_places(many):
    """Things that are no place where there are so many, made anew for each asker."""
    return no_numbers() + [-1, many, many + 1, -many, -GREAT, GREAT]


def no_bounds():
    """Things that are no bound, made anew for each asker."""
    things = no_tuples() + [(), (1,), (0, 1, 2), (0, 0), (1, 0), (0, -1), (-1, 2), (-1, GREAT), (1, 1), (5, 5), (3, 2)]
    things += [(GREAT, GREAT), (GREAT, GREAT - 1), (-1, -2), ((0, 1), 2), (False, 1), (0, True)]
    return things + [(thing, 2) for thing in no_numbers()] + [(0, thing) for thing in no_numbers()]


def other_things(thing):
    """Things of other kinds in place of one, or that lie near it."""
    if isinstance(thing, bool) or thing is None or isinstance(thing, str):
        return [0, 1, (), "", "yes", None, True, False]
    if isinstance(thing, int):
        return [thing + 1, thing - 1, -thing, 0, thing * 2, bool(thing), None, str(thing), (thing,), [thing]]
    return [None, 0, (), [], "", list(thing), dict(enumerate(thing)), (thing,), thing[::-1], thing + (0,), (0,) + thing]


def otherwise(thing):
    """The thing with one part otherwise, at any depth: of other worth or kind, left out, twice, put in, moved."""
    found = other_things(thing)
    if isinstance(thing, tuple):
        for at, part in enumerate(thing):
            found += [thing[:at] + thing[at + 1:], thing[:at] + (part, part) + thing[at + 1:], thing[at:] + thing[:at]]
            found += [thing[:at] + (other,) + thing[at + 1:] for other in otherwise(part)]
    return [other for other in found if repr(other) != repr(thing)]


def row_of(chooser, many, whole, most):
    """A row of so many weights that sum to whole, at most so many of them above 0."""
    row = [0] * many
    places = chooser.sample(range(many), chooser.randint(1, min(many, most)))
    for at in range(whole):
        row[chooser.choice(places)] += 1
    return tuple(row)


def walks_of(many, how_often, most=3, whole=6, seed=1):
    """Walks of so many places, the same for each asker, each place with a few next ones at most."""
    chooser = random.Random(f"{many} {most} {whole} {seed}")
    return [
        Walk(tuple(row_of(chooser, many, whole, most) for place in range(many))) for time in range(how_often)
    ]


def ring(many):
    """The walk that goes round so many places."""
    return Walk(tuple(tuple(int(y == (x + 1) % many) for y in range(many)) for x in range(many)))


def slow_ring(many):
    """A ring in which the last place leads to the first and the second: no walk of so many places forgets later."""
    rows = [[2 * int(y == (x + 1) % many) for y in range(many)] for x in range(many)]
    rows[-1][0] = rows[-1][1] = 1
    return Walk(tuple(tuple(row) for row in rows))


def few_places():
    """Walks of one to six places, of many shapes."""
    walks = [Walk(((1,),)), Walk(((7,),)), Walk(((1, 1), (0, 2))), Walk(((2, 0), (0, 2))), Walk(((0, 3), (3, 0)))]
    walks += [Walk(((1, 2), (1, 2))), Walk(((GREAT, 1), (2, GREAT - 1))), Walk(((0, 1, 0), (0, 0, 1), (0, 0, 1)))]
    walks += [ring(many) for many in range(2, 7)] + [slow_ring(many) for many in range(3, 7)]
    for many in range(2, 7):
        for most in (1, 2, 3, 6):
            walks += walks_of(many, 5, most=most)
    return walks


def great_walks():
    """Walks of 25 places."""
    stays = Walk(tuple(tuple(int(x == y) for y in range(25)) for x in range(25)))
    walks = [Walk(((4,) * 25,) * 25), ring(25), slow_ring(25), stays]
    return walks + walks_of(25, 2, most=2) + walks_of(25, 1, most=25, whole=300)


def next_of(walk, place):
    """The places to which a step leads, in order."""
    return [other for other in range(len(walk.rows)) if walk.rows[place][other] > 0]


def is_shut(walk, places):
    """Whether no step leads out of the places."""
    return bool(places) and all(other in places for place in places for other in next_of(walk, place))


def all_shut(walk):
    """The least shut sets, found among all sets of places."""
    many = len(walk)
    shut = []
    for size in range(1, many + 1):
        for places in itertools.combinations(range(many), size):
            if is_shut(walk, places) and not any(set(other) <= set(places) for other in shut):
                shut.append(places)
    return tuple(sorted(shut))


def is_number(thing, low=0, high=None):
    """Whether a thing is an int and no truth, from low on and less than high."""
    return type(thing) is int and thing >= low and (high is None or thing < high)


def is_rising(thing, many):
    """Whether a thing is a rising tuple of places where there are so many."""
    if type(thing) is not tuple or not all(is_number(part, 0, many) for part in thing):
        return False
    return list(thing) == sorted(set(thing))


def is_told_way(walk, thing):
    """Whether a thing is a way, by the words of the document one by one."""
    if type(thing) is not tuple or not thing or not all(is_number(place, 0, len(walk)) for place in thing):
        return False
    return all(walk.rows[x][y] > 0 for x, y in zip(thing, thing[1:]))


def are_told_rings(walk, thing):
    """Whether a thing is rings, by the words of the document one by one."""
    if type(thing) is not tuple or len(thing) != 2 or type(thing[0]) is not tuple or type(thing[1]) is not tuple:
        return False
    if len(thing[0]) != len(thing[1]) or not thing[0]:
        return False
    for ring_of_sets in thing:
        if not all(is_rising(places, len(walk)) and places != () for places in ring_of_sets):
            return False
        for places, following in zip(ring_of_sets, ring_of_sets[1:] + ring_of_sets[:1]):
            if not all(other in following for place in places for other in next_of(walk, place)):
                return False
    return all(not set(one) & set(other) for one, other in zip(*thing))


def first_common(walk):
    """The fewest steps after which ways from all starts end in one place, and the first such place, or None."""
    ends = [{place} for place in range(len(walk))]
    for steps in range(len(walk) ** 2 + 1):
        if set.intersection(*ends):
            return steps, min(set.intersection(*ends))
        ends = [{other for place in places for other in next_of(walk, place)} for places in ends]
    return None


def distance(one, other):
    """Half of what the chances of two lots differ, over all places."""
    return sum(abs(Fraction(a, sum(one)) - Fraction(b, sum(other))) for a, b in zip(one, other)) / 2


def brought(one, other):
    """Both lots brought to one sum, the least."""
    common = math.lcm(sum(one), sum(other))
    return [weight * common // sum(one) for weight in one], [weight * common // sum(other) for weight in other]


def told_joining(one, other, thing):
    """Whether a thing is a joining, by the words of the document one by one."""
    first, second = brought(one, other)
    if type(thing) is not tuple or len(thing) != len(one):
        return False
    for x, row in enumerate(thing):
        if type(row) is not tuple or len(row) != len(one) or not all(is_number(weight) for weight in row):
            return False
        if sum(row) != first[x]:
            return False
    return all(sum(row[y] for row in thing) == second[y] for y in range(len(one)))


def of_one_rest(walk):
    """Whether the set of all places is a least shut one."""
    return all_shut(walk) == (tuple(range(len(walk))),)


def solved(rows):
    """What solves rows of fractions, as many unknowns as rows, whatever stands behind them solved for at once."""
    rows = [list(row) for row in rows]
    many = len(rows)
    for at in range(many):
        pivot = next(row for row in range(at, many) if rows[row][at])
        rows[at], rows[pivot] = rows[pivot], rows[at]
        rows[at] = [part / rows[at][at] for part in rows[at]]
        for row in range(many):
            if row != at:
                rows[row] = [part - rows[row][at] * own for part, own in zip(rows[row], rows[at])]
    return [row[many:] for row in rows]


def solved_rest(walk, shut):
    """The rest on a set, by solving with fractions: what comes to each place is what is there, all together 1."""
    many = len(shut)
    rows = [[Fraction(walk.rows[x][y] - (walk.whole if x == y else 0)) for x in shut] + [Fraction(0)] for y in shut]
    rows[-1] = [Fraction(1)] * (many + 1)
    chances = [row[0] for row in solved(rows)]
    common = math.lcm(*[chance.denominator for chance in chances])
    weights = dict(zip(shut, [int(chance * common) for chance in chances]))
    divider = math.gcd(*weights.values())
    return tuple(weights.get(place, 0) // divider for place in range(len(walk)))


def corner_joining(one, other, order):
    """The joining filled by columns in some order, mostly not of the least parted."""
    first, second = brought(one, other)
    rows = [[0] * len(one) for place in one]
    for x in range(len(one)):
        for y in order:
            rows[x][y] = min(first[x] - sum(rows[x]), second[y] - sum(row[y] for row in rows))
    return tuple(tuple(row) for row in rows)


def of_rest():
    """Walks of one rest, of one to six places, of many shapes."""
    walks = [walk for walk in few_places() if of_one_rest(walk)]
    for many in range(2, 7):
        walks += [walk for walk in walks_of(many, 4, most=many, whole=12, seed=5) if of_one_rest(walk)]
    return walks


def of_no_rest():
    """Walks that are not of one rest: of several least shut sets, or of one that isn't all places."""
    return [walk for walk in few_places() if not of_one_rest(walk)] + [great_walks()[3]]


def rest_chances(walk):
    """The chances of the rest of a walk of one rest."""
    rest = solved_rest(walk, tuple(range(len(walk))))
    return [Fraction(weight, sum(rest)) for weight in rest]


def step_on(walk, chances):
    """The chances one step later."""
    places = range(len(walk))
    return [sum(chances[x] * Fraction(walk.rows[x][y], walk.whole) for x in places) for y in places]


def start_chances(walk, start, steps):
    """The chances of all places after so many steps from a start, gone on step by step."""
    chances = [Fraction(int(place == start)) for place in range(len(walk))]
    for step in range(steps):
        chances = step_on(walk, chances)
    return chances


def sets_of_places(many):
    """All rising tuples of one place and more."""
    return [places for size in range(1, many + 1) for places in itertools.combinations(range(many), size)]


def no_sets(many):
    """Things that are no rising tuple of one place and more where there are so many, made anew for each asker."""
    things = no_tuples() + [(), (-1,), (many,), (0, many), (0, 0), ((0,),), (0, (1,)), (1, 0), (0,) * 39999]
    things += [(many - 1, 0, 0), (GREAT,), (0, -1), (None,), (False,), (True,), deep_list(12), ("0",), ([0],), ({},)]
    return things + [(thing,) for thing in no_numbers()] + [(0, thing) for thing in no_numbers()]


def as_pair(fraction):
    """A fraction as this program tells it."""
    return (fraction.numerator, fraction.denominator)
