import copy
import itertools
import math
import unittest
from fractions import Fraction

from fadewalk.backward import is_slip, looks_alike, turned
from fadewalk.errors import NoRest, TooMany
from fadewalk.making import folded, lazy, plainest
from fadewalk.rests import one_rest
from fadewalk.walks import Walk
from samples import (
    GREAT, Refusals, deep_list, few_places, great_walks, is_number, no_numbers, no_tuples, of_one_rest, otherwise,
    ring, walks_of,
)

HALF = Walk(((1, 1), (0, 2)))
# Going round is likelier one way than the other.
ROUND = Walk(((0, 2, 1), (1, 0, 2), (2, 1, 0)))
# All weights are above 0, only round 0, 1, 2, 3 it slips by little.
NEARLY = Walk(((3, 3, 3, 3), (3, 3, 3, 3), (3, 3, 3, 3), (4, 3, 2, 3)))


def is_told_slip(walk, thing):
    """Whether a thing is a slip, by the words of the document one by one."""
    if type(thing) is not tuple or len(thing) < 3 or not all(is_number(place, 0, len(walk)) for place in thing):
        return False
    if any(thing.count(place) > 1 for place in thing):
        return False
    onward = math.prod(walk.rows[x][y] for x, y in zip(thing, thing[1:] + thing[:1]))
    backward = math.prod(walk.rows[y][x] for x, y in zip(thing, thing[1:] + thing[:1]))
    return onward != backward


def all_slips(walk):
    sizes = range(3, len(walk) + 1)
    return [p for size in sizes for p in itertools.permutations(range(len(walk)), size) if is_told_slip(walk, p)]


def looks_so(walk, rest):
    """Whether for all places as much goes from one to the other as back."""
    many = range(len(walk))
    return all(rest[x] * walk.rows[x][y] == rest[y] * walk.rows[y][x] for x in many for y in many)


def balanced(many, seed):
    """A walk that looks alike backward, made of weights between places that are the same both ways."""
    rows = [[(x * y + seed * (x + y) + 1) % 4 for y in range(many)] for x in range(many)]
    for place in range(1, many):
        rows[place][place - 1] = rows[place - 1][place] = seed + place
    whole = math.lcm(*[sum(row) for row in rows])
    return Walk(tuple(tuple(weight * (whole // sum(row)) for weight in row) for row in rows))


def some_balanced():
    return [balanced(many, seed) for many in range(1, 7) for seed in range(1, 4)]


def some_walks():
    """Walks of up to six places of one rest, of many shapes."""
    walks = [walk for walk in few_places() if of_one_rest(walk)] + some_balanced() + [ROUND, NEARLY]
    for many in range(3, 7):
        walks += [walk for walk in walks_of(many, 6, most=many, whole=12, seed=3) if of_one_rest(walk)]
    return walks


def anything():
    """Things of many kinds, made anew for each asker."""
    things = no_tuples() + [(), (0,), (0, 1), (0, 1, 2), (0, 1, -1), (0, 1, 99), ((0,), (1,), (2,)), ((0, 1, 2),)]
    things += [(0, 1, 1), (0, 0, 0), (0, 1, 2, 0), (0,) * 39999, deep_list(12), (False, True, 2), ("0", "1", "2")]
    for thing in no_numbers():
        things += [(thing, 1, 2), (0, thing, 2), (0, 1, thing), (thing, thing, thing)]
    return things


class Slips(Refusals):
    def test_by_hand(self):
        self.assertIs(is_slip(ROUND, (0, 1, 2)), True)
        self.assertIs(is_slip(ROUND, (2, 1, 0)), True)
        self.assertIs(is_slip(ROUND, (1, 2, 0)), True)
        self.assertIs(is_slip(ROUND, (0, 1)), False)
        self.assertIs(is_slip(ROUND, (0, 1, 1)), False)
        self.assertIs(is_slip(ROUND, (0, 1, 2, 0)), False)
        self.assertIs(is_slip(ring(3), (0, 1, 2)), True)
        self.assertIs(is_slip(ring(4), (0, 1, 2)), False)
        self.assertIs(is_slip(ring(4), (0, 1, 2, 3)), True)
        self.assertIs(is_slip(Walk(((1, 1, 1), (1, 1, 1), (1, 1, 1))), (0, 1, 2)), False)
        self.assertIs(is_slip(thing=(0, 3, 2), walk=NEARLY), True)
        self.assertIs(is_slip(ring(3), (0, True, 2)), False)
        self.assertIs(is_slip(ring(3), (False, 1, 2)), False)

    def test_all_tuples_of_places(self):
        for walk in some_walks()[::2] + [HALF, Walk(((1, 0, 0), (0, 1, 0), (0, 0, 1)))]:
            for size in range(5):
                for thing in itertools.product(range(min(len(walk), 4)), repeat=size):
                    self.assertIs(is_slip(walk, thing), is_told_slip(walk, thing))

    def test_begun_elsewhere_turned_about_and_with_a_place_twice(self):
        for walk in some_walks():
            for slip in all_slips(walk)[:20]:
                for at in range(len(slip)):
                    moved = slip[at:] + slip[:at]
                    self.assertIs(is_slip(walk, moved), True)
                    self.assertIs(is_slip(walk, moved[::-1]), True)
                    self.assertIs(is_slip(walk, moved + moved[:1]), False)
                    self.assertIs(is_slip(walk, moved[:1] + moved), False)

    def test_with_one_thing_otherwise(self):
        for walk in some_walks():
            for slip in all_slips(walk)[:3]:
                for thing in otherwise(slip):
                    self.assertIs(is_slip(walk, thing), is_told_slip(walk, thing), thing)

    def test_of_any_walk(self):
        # Of more than six places, and of more rests than one.
        self.assertIs(is_slip(ring(25), tuple(range(25))), True)
        self.assertIs(is_slip(ring(25), tuple(range(24))), False)
        self.assertIs(is_slip(ring(25), tuple(range(24, -1, -1))), True)
        walk = Walk(((1, 0, 0, 0), (0, 0, 1, 0), (0, 0, 0, 1), (0, 1, 0, 0)))
        self.assertIs(is_slip(walk, (1, 2, 3)), True)
        self.assertIs(is_slip(walk, (0, 1, 2)), False)

    def test_of_anything(self):
        for walk in (Walk(((1,),)), HALF, ROUND, ring(5), great_walks()[0]):
            for thing in anything():
                self.assertIs(is_slip(walk, thing), is_told_slip(walk, thing))


class Looking(Refusals):
    def test_by_hand(self):
        self.assertEqual(looks_alike(Walk(((7,),))), ("yes", (1,)))
        self.assertEqual(looks_alike(ring(2)), ("yes", (1, 1)))
        self.assertEqual(looks_alike(walk=Walk(((2, 4), (1, 5)))), ("yes", (1, 4)))
        self.assertEqual(looks_alike(Walk(((2, 1, 0), (1, 1, 1), (0, 1, 2)))), ("yes", (1, 1, 1)))
        self.assertEqual(looks_alike(ROUND)[0], "no")
        self.assertEqual(looks_alike(NEARLY)[0], "no")
        for many in (3, 4, 5, 6):
            told = looks_alike(ring(many))
            self.assertEqual((told[0], sorted(told[1])), ("no", list(range(many))))

    def test_of_up_to_six_places(self):
        answers = set()
        for walk in some_walks():
            told = looks_alike(walk)
            self.assertIs(type(told), tuple)
            if looks_so(walk, one_rest(walk)):
                self.assertEqual(told, ("yes", one_rest(walk)))
                self.assertEqual(all_slips(walk), [])
            else:
                self.assertEqual((told[0], len(told)), ("no", 2))
                self.assertIn(told[1], all_slips(walk))
                self.assertIs(is_slip(walk, told[1]), True)
            answers.add((told[0], len(walk)))
        self.assertTrue({("yes", many) for many in range(1, 7)} <= answers)
        self.assertTrue({("no", many) for many in range(3, 7)} <= answers)

    def test_balanced_walks(self):
        for walk in some_balanced():
            self.assertEqual(looks_alike(walk), ("yes", one_rest(walk)))

    def test_too_many(self):
        for many in (7, 8, 25):
            taken = self.assert_refused(TooMany, looks_alike, ring(many))
            self.assertEqual((taken.many, taken.most), (many, 6))
        self.assertEqual(looks_alike(balanced(6, 1))[0], "yes")
        self.assert_refused(TooMany, looks_alike, balanced(7, 1))

    def test_no_rest_ahead_of_too_many(self):
        for walk in (HALF, Walk(((1, 0), (0, 1))), great_walks()[3]):
            self.assert_refused(NoRest, looks_alike, walk)
        rows = tuple(tuple(int(y == max(0, x - 1)) for y in range(7)) for x in range(7))
        self.assert_refused(NoRest, looks_alike, Walk(rows))


class Turned(Refusals):
    def test_by_hand(self):
        self.assertEqual(turned(Walk(((7,),))), Walk(((1,),)))
        self.assertEqual(turned(ring(3)), Walk(((0, 0, 1), (1, 0, 0), (0, 1, 0))))
        self.assertEqual(turned(walk=ROUND), Walk(((0, 1, 2), (2, 0, 1), (1, 2, 0))))
        # The rest is (2, 1, 1): from 0 a half goes to 1, which all goes to 2, and back.
        self.assertEqual(turned(Walk(((1, 1, 0), (0, 0, 2), (2, 0, 0)))), Walk(((1, 0, 1), (2, 0, 0), (0, 2, 0))))
        self.assertEqual(turned(Walk(((4, 8), (2, 10)))), Walk(((2, 4), (1, 5))))

    def test_against_chances(self):
        for walk in some_walks() + walks_of(25, 2, most=25, whole=60):
            rest = one_rest(walk)
            told = turned(walk)
            self.assertIs(type(told), Walk)
            self.assertEqual(math.gcd(*[weight for row in told.rows for weight in row]), 1)
            for x in range(len(walk)):
                for y in range(len(walk)):
                    chance = Fraction(rest[y] * walk.rows[y][x], rest[x] * walk.whole)
                    self.assertEqual(Fraction(told.rows[x][y], told.whole), chance)

    def test_twice(self):
        for walk in some_walks() + [ring(25)]:
            self.assertEqual(turned(turned(walk)), plainest(walk))
            self.assertEqual(one_rest(turned(walk)), one_rest(walk))

    def test_of_those_that_look_alike(self):
        for walk in some_walks():
            alike = looks_alike(walk)[0] == "yes"
            self.assertIs(turned(walk) == plainest(walk), alike)

    def test_of_walks_told_by_the_program(self):
        walk = folded(lazy(ROUND, 3, GREAT), 8)
        self.assertEqual(turned(turned(walk)), plainest(walk))

    def test_refused(self):
        for walk in (HALF, Walk(((1, 0), (0, 1))), great_walks()[3]):
            self.assert_refused(NoRest, turned, walk)


class Keeping(Refusals):
    def test_nothing_handed_in_is_changed(self):
        for thing in anything():
            ahead = copy.deepcopy(thing)
            first = is_slip(ROUND, thing)
            self.assertIs(is_slip(ROUND, thing), first)
            self.assertEqual(repr(thing), repr(ahead))

    def test_the_same_asked_again(self):
        for walk in some_walks():
            ahead = repr(walk)
            first, other = looks_alike(walk), turned(walk)
            self.assertEqual(looks_alike(walk)[0], first[0])
            self.assertEqual(turned(walk), other)
            self.assertEqual(repr(walk), ahead)


if __name__ == "__main__":
    unittest.main()
