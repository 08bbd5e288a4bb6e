import copy
import itertools
import math
import unittest

from fadewalk.errors import NoSet
from fadewalk.walks import Walk
from fadewalk.ways import led_to, shut_sets, sides_of, turn_of
from samples import (
    Refusals, all_shut, few_places, great_walks, is_shut, next_of, no_numbers, no_tuples, otherwise, ring, slow_ring,
)

# Two rings, of two places and of three, and places that lead into one and into both.
RINGS = Walk((
    (0, 2, 0, 0, 0, 0, 0), (0, 0, 0, 2, 0, 0, 0), (0, 0, 0, 0, 2, 0, 0), (2, 0, 0, 0, 0, 0, 0),
    (0, 0, 2, 0, 0, 0, 0), (1, 0, 1, 0, 0, 0, 0), (0, 0, 0, 0, 0, 1, 1),
))
# A ring of four places in pairs: each of the first two leads to both of the last two, and back.
PAIRS = Walk(((0, 0, 1, 1), (0, 0, 2, 0), (1, 1, 0, 0), (0, 2, 0, 0)))


def steps_lead(walk, start, steps):
    """The set of places to which ways of just so many steps lead from the start."""
    places = {start}
    for step in range(steps):
        places = {other for place in places for other in next_of(walk, place)}
    return places


def all_led(walk):
    many = len(walk)
    return tuple(
        tuple(sorted(set().union(*[steps_lead(walk, start, steps) for steps in range(many)]))) for start in range(many)
    )


def rounds_divider(walk, shut):
    """The greatest number that divides the steps of all ways round, of at most so many steps as can matter."""
    divider = 0
    for place in shut:
        for steps in range(1, 2 * len(shut) + 1):
            if place in steps_lead(walk, place, steps):
                divider = math.gcd(divider, steps)
    return divider


def all_sides(walk, shut, turn):
    """The sides, by ways of so many steps and many rounds of the turn."""
    sides = []
    for side in range(turn):
        ends = [steps_lead(walk, shut[0], side + turn * more) for more in range(len(shut) ** 2 + 1)]
        sides.append(tuple(sorted(set().union(*ends))))
    return tuple(sides)


class Leading(Refusals):
    def test_by_hand(self):
        self.assertEqual(led_to(Walk(((1,),))), ((0,),))
        self.assertEqual(led_to(Walk(((1, 1), (0, 2)))), ((0, 1), (1,)))
        self.assertEqual(led_to(Walk(((2, 0), (0, 2)))), ((0,), (1,)))
        self.assertEqual(led_to(ring(4)), ((0, 1, 2, 3),) * 4)
        # A place that no step leads back to is led to by the way of no steps.
        self.assertEqual(led_to(walk=Walk(((0, 1), (0, 1)))), ((0, 1), (1,)))
        pair, three = (0, 1, 3), (2, 4)
        self.assertEqual(led_to(RINGS), (pair, pair, three, pair, three, (0, 1, 2, 3, 4, 5), (0, 1, 2, 3, 4, 5, 6)))

    def test_against_ways_of_all_steps(self):
        for walk in few_places() + great_walks() + [RINGS, PAIRS]:
            told = led_to(walk)
            self.assertEqual(told, all_led(walk))
            self.assertEqual({type(told)} | {type(places) for places in told}, {tuple})


class ShutSets(Refusals):
    def test_by_hand(self):
        self.assertEqual(shut_sets(Walk(((7,),))), ((0,),))
        self.assertEqual(shut_sets(Walk(((1, 1), (0, 2)))), ((1,),))
        self.assertEqual(shut_sets(Walk(((2, 0), (0, 2)))), ((0,), (1,)))
        self.assertEqual(shut_sets(ring(25)), (tuple(range(25)),))
        self.assertEqual(shut_sets(RINGS), ((0, 1, 3), (2, 4)))
        self.assertEqual(shut_sets(walk=PAIRS), ((0, 1, 2, 3),))

    def test_rising_where_sets_lie_within_one_another(self):
        # 0 and 3 go round, and so do 1 and 2.
        self.assertEqual(shut_sets(Walk(((0, 0, 0, 1), (0, 0, 1, 0), (0, 1, 0, 0), (1, 0, 0, 0)))), ((0, 3), (1, 2)))
        # 2 and 3 go round, 1 stays, 0 leads to both.
        self.assertEqual(shut_sets(Walk(((0, 1, 1, 0), (0, 2, 0, 0), (0, 0, 0, 2), (0, 0, 2, 0)))), ((1,), (2, 3)))

    def test_against_all_sets(self):
        for walk in few_places() + [RINGS, PAIRS]:
            told = shut_sets(walk)
            self.assertEqual(told, all_shut(walk))
            self.assertEqual({type(told)} | {type(places) for places in told}, {tuple})

    def test_of_25_places(self):
        for walk in great_walks():
            told = shut_sets(walk)
            led = all_led(walk)
            self.assertEqual(told, tuple(sorted({s for s in led if all(led[place] == s for place in s)})))
            self.assertTrue(all(is_shut(walk, places) for places in told))


class Turns(Refusals):
    def test_by_hand(self):
        self.assertEqual(turn_of(Walk(((1,),)), (0,)), 1)
        self.assertEqual(sides_of(Walk(((1,),)), (0,)), ((0,),))
        self.assertEqual(turn_of(Walk(((1, 1), (0, 2))), (1,)), 1)
        self.assertEqual(turn_of(ring(6), (0, 1, 2, 3, 4, 5)), 6)
        self.assertEqual(sides_of(ring(3), (0, 1, 2)), ((0,), (1,), (2,)))
        self.assertEqual(turn_of(ring(25), tuple(range(25))), 25)
        self.assertEqual(turn_of(slow_ring(25), tuple(range(25))), 1)
        self.assertEqual(sides_of(slow_ring(4), (0, 1, 2, 3)), ((0, 1, 2, 3),))
        self.assertEqual((turn_of(RINGS, (0, 1, 3)), turn_of(RINGS, (2, 4))), (3, 2))
        self.assertEqual(sides_of(RINGS, (0, 1, 3)), ((0,), (1,), (3,)))
        self.assertEqual(sides_of(RINGS, (2, 4)), ((2,), (4,)))
        self.assertEqual(turn_of(walk=PAIRS, shut=(0, 1, 2, 3)), 2)
        self.assertEqual(sides_of(shut=(0, 1, 2, 3), walk=PAIRS), ((0, 1), (2, 3)))

    def test_rounds_of_four_and_six(self):
        # 0 to 3 and back are four steps, by 4 and 5 and back they are six.
        rows = [[0] * 6 for place in range(6)]
        for x, y in ((0, 1), (1, 2), (2, 3), (4, 5), (5, 0)):
            rows[x][y] = 2
        rows[3][0] = rows[3][4] = 1
        walk = Walk(tuple(tuple(row) for row in rows))
        self.assertEqual(turn_of(walk, tuple(range(6))), 2)
        self.assertEqual(sides_of(walk, tuple(range(6))), ((0, 2, 4), (1, 3, 5)))

    def test_where_ways_to_a_place_are_of_many_lengths(self):
        # From 0 one comes to 3 by 4, and by 5 and 1: the turn is reckoned of the shortest ways.
        walk = Walk((
            (0, 0, 0, 0, 3, 3), (0, 0, 0, 3, 3, 0), (4, 0, 2, 0, 0, 0), (0, 0, 4, 0, 2, 0), (0, 0, 0, 6, 0, 0),
            (0, 6, 0, 0, 0, 0),
        ))
        self.assertEqual(turn_of(walk, tuple(range(6))), 1)
        self.assertEqual(sides_of(walk, tuple(range(6))), (tuple(range(6)),))

    def test_against_ways_round(self):
        turns = set()
        for walk in few_places() + [RINGS, PAIRS]:
            for shut in all_shut(walk):
                turn = rounds_divider(walk, shut)
                self.assertEqual(turn_of(walk, shut), turn)
                told = sides_of(walk, shut)
                self.assertEqual(told, all_sides(walk, shut, turn))
                self.assertEqual({type(told)} | {type(side) for side in told}, {tuple})
                turns.add((len(shut) > turn, turn))
        self.assertTrue({(True, 1), (True, 2), (False, 2), (False, 3)} <= turns)

    def test_of_25_places(self):
        for walk in great_walks():
            for shut in shut_sets(walk):
                turn = turn_of(walk, shut)
                sides = sides_of(walk, shut)
                self.assertEqual(len(sides), turn)
                self.assertEqual(tuple(sorted(place for side in sides for place in side)), shut)
                for at, side in enumerate(sides):
                    following = sides[(at + 1) % turn]
                    self.assertTrue(all(other in following for place in side for other in next_of(walk, place)))


class Refusing(Refusals):
    def test_of_anything(self):
        for walk in (Walk(((1,),)), Walk(((2, 0), (0, 2))), RINGS):
            things = no_tuples() + [(thing,) for thing in no_numbers()] + [(0, thing) for thing in no_numbers()]
            for thing in things + [(), (-1,), (25,), ((0,), (1,)), shut_sets(walk), ((0, 1, 3),)]:
                self.assert_refused(NoSet, turn_of, walk, thing)
                self.assert_refused(NoSet, sides_of, walk, thing)

    def test_truths_are_no_places(self):
        for walk, thing in (
            (Walk(((1,),)), (False,)), (Walk(((2, 0), (0, 2))), (True,)), (ring(2), (False, True)),
            (ring(2), (0, True)),
        ):
            self.assert_refused(NoSet, turn_of, walk, thing)
            self.assert_refused(NoSet, sides_of, walk, thing)

    def test_all_sets(self):
        for walk in few_places() + [RINGS]:
            shut = all_shut(walk)
            for size in range(len(walk) + 1):
                for places in itertools.combinations(range(len(walk)), size):
                    if places not in shut:
                        self.assert_refused(NoSet, turn_of, walk, places)
                        self.assert_refused(NoSet, sides_of, walk, places)

    def test_with_one_thing_otherwise(self):
        for thing in otherwise((0, 1, 3)):
            self.assert_refused(NoSet, turn_of, RINGS, thing)
            self.assert_refused(NoSet, sides_of, RINGS, thing)
        self.assert_refused(NoSet, turn_of, RINGS, (0, 1, 2, 3, 4))
        self.assert_refused(NoSet, turn_of, RINGS, (3, 1, 0))


class Keeping(Refusals):
    def test_nothing_handed_in_is_changed(self):
        for thing in no_tuples() + [([0],), ({0: 1},)]:
            ahead = copy.deepcopy(thing)
            self.assert_refused(NoSet, turn_of, RINGS, thing)
            self.assert_refused(NoSet, sides_of, RINGS, thing)
            self.assertEqual(repr(thing), repr(ahead))

    def test_the_same_asked_again(self):
        for walk in few_places() + [RINGS, PAIRS]:
            ahead = repr(walk)
            first = (led_to(walk), shut_sets(walk))
            turns = [(turn_of(walk, shut), sides_of(walk, shut)) for shut in first[1]]
            self.assertEqual((led_to(walk), shut_sets(walk)), first)
            self.assertEqual([(turn_of(walk, shut), sides_of(walk, shut)) for shut in first[1]], turns)
            self.assertEqual(repr(walk), ahead)


if __name__ == "__main__":
    unittest.main()
