import copy
import itertools
import math
import random
import unittest
from fractions import Fraction

from fadewalk.errors import NoPlace, NoRest
from fadewalk.rests import is_rest, one_rest, rests, trees_toward
from fadewalk.walks import Walk
from samples import (
    GREAT, Refusals, all_shut, few_places, great_walks, is_number, next_of, no_numbers, no_places, no_tuples,
    otherwise, ring, solved_rest, walks_of,
)

HALF = Walk(((1, 1), (0, 2)))
STAYS = Walk(((1, 0, 0), (0, 1, 0), (0, 0, 1)))
# 0 and 3 make a set, so do 1 and 2, and 4 leads into both.
TWO = Walk(((1, 0, 0, 5, 0), (0, 2, 4, 0, 0), (0, 6, 0, 0, 0), (3, 0, 0, 3, 0), (1, 1, 0, 0, 4)))


def is_told_rest(walk, thing):
    """Whether a thing is a lot of the walk's places that a step leaves with the same chances."""
    if type(thing) is not tuple or len(thing) != len(walk) or not all(is_number(weight) for weight in thing):
        return False
    if not any(thing):
        return False
    step = [sum(thing[x] * walk.rows[x][y] for x in range(len(walk))) for y in range(len(walk))]
    return [Fraction(weight, sum(thing)) for weight in thing] == [Fraction(weight, sum(step)) for weight in step]


def trees_one_by_one(walk, place):
    """The weights of all trees toward a place, each gone through."""
    others = [other for other in range(len(walk)) if other != place]
    total = 0
    for steps in itertools.product(range(len(walk)), repeat=len(others)):
        onward = dict(zip(others, steps))
        if all(comes_to(onward, start, place) for start in others):
            total += math.prod(walk.rows[x][y] for x, y in onward.items())
    return total


def comes_to(onward, start, place):
    for step in range(len(onward) + 1):
        if start == place:
            return True
        start = onward[start]
    return start == place


class Rests(Refusals):
    def test_by_hand(self):
        self.assertEqual(rests(Walk(((7,),))), ((1,),))
        self.assertEqual(rests(HALF), ((0, 1),))
        self.assertEqual(rests(Walk(((2, 0), (0, 2)))), ((1, 0), (0, 1)))
        self.assertEqual(rests(STAYS), ((1, 0, 0), (0, 1, 0), (0, 0, 1)))
        self.assertEqual(rests(ring(4)), ((1, 1, 1, 1),))
        self.assertEqual(rests(Walk(((1, 3), (1, 3)))), ((1, 3),))
        self.assertEqual(rests(Walk(((2, 4), (1, 5)))), ((1, 4),))
        self.assertEqual(rests(walk=TWO), ((3, 0, 0, 5, 0), (0, 3, 2, 0, 0)))
        self.assertEqual(one_rest(Walk(((2, 4), (1, 5)))), (1, 4))
        self.assertEqual(one_rest(walk=Walk(((7,),))), (1,))

    def test_against_solving(self):
        seen = set()
        for walk in few_places() + [TWO, STAYS]:
            shut = all_shut(walk)
            told = rests(walk)
            self.assertEqual(told, tuple(solved_rest(walk, places) for places in shut))
            self.assertEqual({type(told)} | {type(lot) for lot in told}, {tuple})
            self.assertEqual({type(weight) for lot in told for weight in lot}, {int})
            for lot, places in zip(told, shut):
                self.assertEqual(tuple(place for place in range(len(walk)) if lot[place]), places)
                self.assertEqual(math.gcd(*lot), 1)
            if shut == (tuple(range(len(walk))),):
                self.assertEqual(one_rest(walk), told[0])
            else:
                self.assert_refused(NoRest, one_rest, walk)
            seen.add((len(walk), len(shut)))
        self.assertTrue({(2, 1), (2, 2), (3, 3), (6, 1)} <= seen)

    def test_of_25_places(self):
        for walk in great_walks() + walks_of(25, 3, most=25, whole=1000):
            told = rests(walk)
            for lot in told:
                self.assertIs(is_told_rest(walk, lot), True)
                self.assertEqual(math.gcd(*lot), 1)
                places = [place for place in range(25) if lot[place]]
                self.assertTrue(all(set(next_of(walk, place)) <= set(places) for place in places))
        self.assertEqual(one_rest(Walk(((4,) * 25,) * 25)), (1,) * 25)
        self.assertEqual(len(rests(great_walks()[3])), 25)

    def test_of_great_weights(self):
        chooser = random.Random(5)
        rows = []
        for place in range(25):
            cuts = sorted(chooser.randrange(GREAT + 1) for at in range(24))
            rows.append(tuple(high - low for low, high in zip([0] + cuts, cuts + [GREAT])))
        walk = Walk(tuple(rows))
        self.assertIs(is_told_rest(walk, one_rest(walk)), True)
        self.assertIs(is_rest(walk, one_rest(walk)), True)
        self.assertGreater(max(one_rest(walk)), 10 ** 100)

    def test_of_one_rest_where_the_set_of_all_places_is_least(self):
        # One least shut set that isn't of all places is no such walk.
        for walk in (HALF, Walk(((2, 0), (0, 2))), TWO, STAYS, great_walks()[3]):
            self.assert_refused(NoRest, one_rest, walk)
        self.assertEqual(one_rest(ring(25)), (1,) * 25)


class IsRest(Refusals):
    def test_by_hand(self):
        self.assertIs(is_rest(HALF, (0, 1)), True)
        self.assertIs(is_rest(HALF, (0, GREAT)), True)
        self.assertIs(is_rest(HALF, (1, 1)), False)
        self.assertIs(is_rest(HALF, (0, 0)), False)
        self.assertIs(is_rest(HALF, (0, 1, 0)), False)
        self.assertIs(is_rest(HALF, (1,)), False)
        self.assertIs(is_rest(HALF, (0, True)), False)
        self.assertIs(is_rest(HALF, [0, 1]), False)
        self.assertIs(is_rest(STAYS, (3, 0, 5)), True)
        self.assertIs(is_rest(STAYS, (3, -1, 5)), False)
        self.assertIs(is_rest(thing=(5,), walk=Walk(((1,),))), True)

    def test_multiplied_put_together_and_otherwise(self):
        for walk in few_places() + [TWO, STAYS]:
            told = rests(walk)
            made = list(told)
            for times, others in ((2, 3), (GREAT, 1), (0, 4)):
                made.append(tuple(times * a + others * b for a, b in zip(told[0], told[-1])))
            for lot in made:
                self.assertIs(is_rest(walk, lot), True)
                for thing in otherwise(lot):
                    self.assertIs(is_rest(walk, thing), is_told_rest(walk, thing), thing)

    def test_all_small_lots(self):
        for walk in few_places():
            if len(walk) <= 3:
                for lot in itertools.product(range(4), repeat=len(walk)):
                    self.assertIs(is_rest(walk, lot), is_told_rest(walk, lot))

    def test_of_anything(self):
        for walk in (Walk(((1,),)), HALF, STAYS, great_walks()[0]):
            things = no_tuples() + [(), (0,), (1,) * 26, (0,) * 25, (-1,) * 25, ((1,),), ((1, 2), (3, 4)), (1,) * 39999]
            things += [(thing,) for thing in no_numbers()] + [(0, thing) for thing in no_numbers()]
            for thing in things:
                self.assertIs(is_rest(walk, thing), False)


class Trees(Refusals):
    def test_by_hand(self):
        self.assertEqual(trees_toward(Walk(((7,),)), 0), 1)
        self.assertEqual(trees_toward(HALF, 1), 1)
        self.assertEqual(trees_toward(HALF, 0), 0)
        self.assertEqual(trees_toward(Walk(((2, 4), (1, 5))), 0), 1)
        self.assertEqual(trees_toward(Walk(((2, 4), (1, 5))), 1), 4)
        self.assertEqual(trees_toward(walk=STAYS, place=2), 0)
        # Toward 0: 1 and 2 straight, 1 by 2, or 2 by 1.
        walk = Walk(((10, 0, 0), (2, 5, 3), (1, 4, 5)))
        self.assertEqual(trees_toward(walk, 0), 2 * 1 + 3 * 1 + 4 * 2)

    def test_gone_through_one_by_one(self):
        for walk in [walk for walk in few_places() if len(walk) <= 5] + [TWO] + walks_of(6, 2, most=6):
            for place in range(len(walk)):
                told = trees_toward(walk, place)
                self.assertEqual(told, trees_one_by_one(walk, place))
                self.assertIs(type(told), int)

    def test_of_25_places(self):
        # There are 25 to the power of 23 trees, each of 24 steps.
        self.assertEqual(trees_toward(Walk(((4,) * 25,) * 25), 7), 25 ** 23 * 4 ** 24)
        for place in (0, 24):
            self.assertEqual(trees_toward(ring(25), place), 1)
            self.assertEqual(trees_toward(great_walks()[3], place), 0)

    def test_they_are_a_rest_where_there_is_one_least_shut_set(self):
        for walk in few_places() + great_walks():
            if len(rests(walk)) == 1:
                self.assertIs(is_told_rest(walk, tuple(trees_toward(walk, place) for place in range(len(walk)))), True)

    def test_refused(self):
        for walk in (Walk(((1,),)), HALF, great_walks()[0]):
            for thing in no_places(len(walk)):
                self.assert_refused(NoPlace, trees_toward, walk, thing)


class Keeping(Refusals):
    def test_nothing_handed_in_is_changed(self):
        for thing in no_tuples() + [([1], 2), ({1: 2},)]:
            ahead = copy.deepcopy(thing)
            is_rest(STAYS, thing)
            if not is_number(thing, 0, 3):
                self.assert_refused(NoPlace, trees_toward, STAYS, thing)
            self.assertEqual(repr(thing), repr(ahead))

    def test_the_same_asked_again(self):
        for walk in few_places():
            ahead = repr(walk)
            first = rests(walk)
            trees = [trees_toward(walk, place) for place in range(len(walk))]
            self.assertEqual(rests(walk), first)
            self.assertEqual([trees_toward(walk, place) for place in range(len(walk))], trees)
            self.assertIs(is_rest(walk, first[0]), is_rest(walk, first[0]))
            self.assertEqual(repr(walk), ahead)


if __name__ == "__main__":
    unittest.main()
