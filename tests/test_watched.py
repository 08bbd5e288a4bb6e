import copy
import itertools
import math
import unittest
from fractions import Fraction

from fadewalk.errors import NoPlace, NoRest, NoSet, NoSteps
from fadewalk.making import plainest
from fadewalk.walks import Walk
from fadewalk.watched import missed, watched
from samples import (
    GREAT, Refusals, as_pair, few_places, great_walks, no_places, no_sets, no_steps, of_no_rest, of_one_rest, of_rest,
    otherwise, rest_chances, ring, sets_of_places, solved, step_on,
)

ONE = Walk(((3,),))
EVEN = Walk(((1, 1), (1, 1)))
HALF = Walk(((1, 1), (0, 2)))
# Its rest is (1, 4).
STEEP = Walk(((2, 4), (1, 5)))
THREE = Walk(((0, 6, 0), (3, 0, 3), (2, 2, 2)))


def next_chances(walk, places):
    """For each of the places the chances of the next one of them at which the walk is."""
    step = [[Fraction(weight, walk.whole) for weight in row] for row in walk.rows]
    others = [place for place in range(len(walk)) if place not in places]
    # From each other place on: what a step leads to at once, and what it leads to from where else it comes to.
    onward = solved([[int(x == y) - step[x][y] for y in others] + [step[x][y] for y in places] for x in others])
    return [
        [step[x][y] + sum(step[x][z] * row[at] for z, row in zip(others, onward)) for at, y in enumerate(places)]
        for x in places
    ]


def missed_by_ways(walk, places, start, steps):
    """The chance of having been at none of the places, way by way."""
    total = Fraction(0)
    for way in itertools.product(range(len(walk)), repeat=steps):
        way = (start,) + way
        if not set(way) & set(places):
            total += math.prod(Fraction(walk.rows[x][y], walk.whole) for x, y in zip(way, way[1:]))
    return total


def missed_by_steps(walk, places, start, steps):
    """The chance of having been at none of the places, step by step."""
    chances = [Fraction(int(place == start and place not in places)) for place in range(len(walk))]
    for step in range(steps):
        chances = [0 if place in places else chance for place, chance in enumerate(step_on(walk, chances))]
    return Fraction(sum(chances))


class Watched(Refusals):
    def assert_watched(self, walk, places):
        told = watched(walk, places)
        self.assertIs(type(told), Walk)
        self.assertEqual(len(told), len(places))
        chances = [[Fraction(weight, told.whole) for weight in row] for row in told.rows]
        self.assertEqual(chances, next_chances(walk, places))
        self.assertEqual(math.gcd(*[weight for row in told.rows for weight in row]), 1)
        return told

    def test_by_hand(self):
        self.assertEqual(watched(ONE, (0,)), Walk(((1,),)))
        self.assertEqual(watched(EVEN, (0,)), Walk(((1,),)))
        self.assertEqual(watched(STEEP, (1,)), Walk(((1,),)))
        self.assertEqual(watched(STEEP, (0, 1)), STEEP)
        self.assertEqual(watched(Walk(((4, 8), (2, 10))), (0, 1)), STEEP)
        self.assertEqual(watched(ring(5), (1, 3)), ring(2))
        self.assertEqual(watched(places=(0, 2, 3), walk=ring(5)), ring(3))
        # From 0 by 1 back or on to 2; from 2 to 0 in a third, to itself in a third, by 1 to either in a third.
        self.assertEqual(watched(THREE, (0, 2)), Walk(((1, 1), (1, 1))))
        # From 1 to 0 in a half, and else by 2, which is left at last for 0 as often as for 1.
        self.assertEqual(watched(THREE, (0, 1)), Walk(((0, 4), (3, 1))))

    def test_all_sets_of_small_walks(self):
        for walk in of_rest():
            for places in sets_of_places(len(walk)):
                self.assert_watched(walk, places)

    def test_its_rest_is_the_rest_s_weights_there(self):
        for walk in of_rest():
            rest = rest_chances(walk)
            for places in sets_of_places(len(walk)):
                inside = sum(rest[place] for place in places)
                self.assertEqual(rest_chances(watched(walk, places)), [rest[place] / inside for place in places])

    def test_of_all_places(self):
        for walk in of_rest() + [great_walks()[0], ring(25), great_walks()[-1]]:
            self.assertEqual(watched(walk, tuple(range(len(walk)))), plainest(walk))

    def test_watched_again(self):
        for walk in [walk for walk in of_rest() if len(walk) >= 4]:
            seen = watched(walk, (0, 2, 3))
            self.assertEqual(watched(seen, (0, 2)), watched(walk, (0, 3)))

    def test_of_25_places(self):
        for walk in (great_walks()[0], great_walks()[1], great_walks()[2], great_walks()[-1]):
            for places in ((7,), (0, 24), (3, 5, 8, 13, 21)):
                self.assert_watched(walk, places)


class Missed(Refusals):
    def test_by_hand(self):
        for steps in range(6):
            self.assertEqual(missed(HALF, (1,), 0, steps=steps), (1, 2 ** steps))
            self.assertEqual(missed(HALF, (0,), 1, steps=steps), (1, 1))
            self.assertEqual(missed(HALF, (0,), 0, steps=steps), (0, 1))
            self.assertEqual(missed(HALF, (0, 1), 0, steps=steps), (0, 1))
            self.assertEqual(missed(ring(5), (4,), 0, steps=steps), (int(steps < 4), 1))
            self.assertEqual(missed(ONE, (0,), 0, steps=steps), (0, 1))
        self.assertEqual(missed(HALF, (1,), 0), (1, 2))
        self.assertEqual(missed(HALF, (1,), 0, steps=100), (1, 2 ** 100))
        self.assertEqual(missed(steps=2, start=1, places=(0,), walk=STEEP), (25, 36))
        # From 1 to 2 in a half, and from there to 1 or 2 in two thirds.
        self.assertEqual(missed(THREE, (0,), 1, steps=2), (1, 3))

    def test_way_by_way(self):
        for walk in [walk for walk in few_places() if len(walk) <= 4]:
            for places in sets_of_places(len(walk)):
                for start in range(len(walk)):
                    for steps in (0, 1, 3):
                        told = missed(walk, places, start, steps=steps)
                        self.assertEqual(told, as_pair(missed_by_ways(walk, places, start, steps)))
                    self.assertEqual(missed(walk, places, start), missed(walk, places, start, steps=1))
                    self.assertEqual(missed(walk, places, start, steps=0), (int(start not in places), 1))

    def test_many_steps(self):
        for walk in few_places()[::4] + [great_walks()[2], great_walks()[-1]]:
            places = (0, len(walk) - 1) if len(walk) > 1 else (0,)
            start = len(walk) // 2
            told = missed(walk, places, start, steps=100)
            self.assertEqual(told, as_pair(missed_by_steps(walk, places, start, 100)))

    def test_of_walks_of_no_rest(self):
        for walk in of_no_rest():
            told = missed(walk, (0,), len(walk) - 1, steps=2)
            self.assertEqual(told, as_pair(missed_by_steps(walk, (0,), len(walk) - 1, 2)))


class Refusing(Refusals):
    def test_rests(self):
        for walk in of_no_rest():
            for places in [(0,), tuple(range(len(walk)))] + no_sets(len(walk)):
                self.assert_refused(NoRest, watched, walk, places)

    def test_sets(self):
        for walk in (ONE, EVEN, HALF, THREE, ring(5)):
            for places in no_sets(len(walk)):
                if of_one_rest(walk):
                    self.assert_refused(NoSet, watched, walk, places)
                self.assert_refused(NoSet, missed, walk, places, 0)
                self.assert_refused(NoSet, missed, walk, places, -1, steps=101)
                self.assert_refused(NoSet, missed, walk, places, None, steps=None)
                self.assert_refused(NoSet, missed, walk, places, 0, steps=-1)

    def test_sets_with_one_thing_otherwise(self):
        for places in sets_of_places(3):
            for thing in otherwise(places):
                if type(thing) is tuple and repr(thing) in [repr(some) for some in sets_of_places(3)]:
                    self.assertEqual(len(watched(THREE, thing)), len(thing))
                else:
                    self.assert_refused(NoSet, watched, THREE, thing)
                    self.assert_refused(NoSet, missed, THREE, thing, 0)

    def test_places(self):
        for walk in (ONE, EVEN, HALF, THREE):
            for start in no_places(len(walk)):
                for steps in (0, 1, 101, None):
                    self.assert_refused(NoPlace, missed, walk, (0,), start, steps=steps)

    def test_steps(self):
        for walk in (ONE, EVEN, HALF, THREE):
            for steps in no_steps():
                self.assert_refused(NoSteps, missed, walk, (0,), 0, steps=steps)
                self.assert_refused(NoSteps, missed, walk, (0,), len(walk) - 1, steps=steps)
            for steps in (0, 100):
                self.assertEqual(missed(walk, (0,), 0, steps=steps), (0, 1))

    def test_steps_are_handed_in_by_name_alone(self):
        with self.assertRaises(TypeError):
            missed(HALF, (1,), 0, 1)


class Keeping(Refusals):
    def test_nothing_handed_in_is_changed(self):
        for thing in no_sets(2):
            ahead = copy.deepcopy(thing)
            self.assert_refused(NoSet, watched, EVEN, thing)
            self.assert_refused(NoSet, missed, EVEN, thing, thing, steps=thing)
            self.assertEqual(repr(thing), repr(ahead))

    def test_the_same_asked_again(self):
        for walk in of_rest() + [Walk(((GREAT, 1), (2, GREAT - 1)))]:
            ahead = repr(walk)
            for places in sets_of_places(len(walk))[::3]:
                self.assertEqual(watched(walk, places), watched(walk, places))
                self.assertEqual(missed(walk, places, 0, steps=3), missed(walk, places, 0, steps=3))
            self.assertEqual(repr(walk), ahead)


if __name__ == "__main__":
    unittest.main()
