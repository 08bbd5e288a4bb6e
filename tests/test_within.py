import copy
import itertools
import unittest
from fractions import Fraction

from fadewalk.apart import farthest, paper_of
from fadewalk.errors import NoBound, NoSteps
from fadewalk.making import lazy
from fadewalk.walks import Walk
from fadewalk.within import first_within, is_voucher
from samples import (
    GREAT, Refusals, are_told_rings, deep_list, distance, few_places, first_common, great_walks, is_number, is_rising,
    no_bounds, no_numbers, no_steps, no_tuples, otherwise, ring, slow_ring, told_joining, walks_of,
)

ONE = Walk(((3,),))
HALF = Walk(((1, 1), (0, 2)))
SAME = Walk(((1, 2), (1, 2)))
# The joinings of HALF after one step.
HALVED = (((0, 1), (0, 1)),)
BOUNDS = ((0, 1), (1, 4), (2, 8), (1, 2), (3, 4), (99, 100), (1, GREAT), (GREAT - 1, GREAT), (0, GREAT))


def has_more(walk, bound, steps, thing):
    """Whether a thing is two places and a set of which the first place's lot has more by more than the bound."""
    many = len(walk)
    place, other, places = thing
    if not is_number(place, 0, many) or not is_number(other, 0, many) or not is_rising(places, many):
        return False
    lots = walk.power(steps)
    more = sum(lots[place][at] for at in places) - sum(lots[other][at] for at in places)
    return Fraction(more, walk.whole ** steps) > Fraction(*bound)


def is_told_voucher(walk, bound, steps, thing):
    """Whether a thing is a voucher, by the words of the document one by one."""
    if type(thing) is not tuple or len(thing) != 4 or type(thing[0]) is not tuple:
        return False
    lots = walk.power(steps)
    pairs = list(itertools.combinations(range(len(walk)), 2))
    if len(thing[0]) != len(pairs):
        return False
    for (x, y), joining in zip(pairs, thing[0]):
        if not told_joining(lots[x], lots[y], joining):
            return False
        parted = sum(weight for u, row in enumerate(joining) for v, weight in enumerate(row) if u != v)
        if Fraction(parted, walk.whole ** steps) > Fraction(*bound):
            return False
    if steps == 0:
        return thing[1] is None and thing[2] is None and thing[3] is None
    return has_more(walk, bound, steps - 1, thing[1:])


def steps_within(walk, bound, most):
    """The first steps after which all starts lie within the bound, or None."""
    for steps in range(most + 1):
        lots = walk.power(steps)
        gaps = [distance(one, other) for one, other in itertools.combinations(lots, 2)]
        if max(gaps, default=0) <= Fraction(*bound):
            return steps
    return None


def best_joinings(walk, steps):
    lots = walk.power(steps)
    return tuple(paper_of(one, other)[1] for one, other in itertools.combinations(lots, 2))


def anything():
    """Things of many kinds, made anew for each asker."""
    things = no_tuples() + [
        (), ((),), ((), None, None), ((), None, None, None), ((), 0, 0, ()), ((), None, None, None, None),
        ((), 0, 0, (0,)), ((), 0, 1, (0,)), (((),), 0, 1, (0,)), ((((0,),),), None, None, None), deep_list(12),
    ]
    for thing in no_numbers():
        things += [(thing, 0, 1, (0,)), ((), thing, thing, thing), (thing,) * 4, ((thing,), 0, 1, (0,))]
    return things


class Vouchers(Refusals):
    def test_by_hand(self):
        self.assertIs(is_voucher(HALF, (1, 2), 1, (HALVED, 0, 1, (0,))), True)
        self.assertIs(is_voucher(HALF, (2, 4), 1, (HALVED, 1, 0, (1,))), True)
        self.assertIs(is_voucher(HALF, (1, 2), 1, ((((1, 1), (0, 2)),), 0, 1, (0,))), False)
        # The bound is less than what is parted; the set has no more; the places stand the other way about.
        self.assertIs(is_voucher(HALF, (49, 100), 1, (HALVED, 0, 1, (0,))), False)
        self.assertIs(is_voucher(HALF, (1, 2), 1, (HALVED, 0, 1, (1,))), False)
        self.assertIs(is_voucher(HALF, (1, 2), 1, (HALVED, 1, 0, (0,))), False)
        self.assertIs(is_voucher(HALF, (1, 2), 1, (HALVED, 0, 1, (0, 1))), False)
        self.assertIs(is_voucher(HALF, (1, 2), 1, (HALVED, 0, 1, ())), False)
        self.assertIs(is_voucher(HALF, (1, 2), 1, (HALVED, 0, 0, (0,))), False)
        self.assertIs(is_voucher(HALF, (1, 2), 1, (HALVED, None, None, None)), False)
        self.assertIs(is_voucher(HALF, (1, 2), 1, ((), 0, 1, (0,))), False)
        # After one step they lie a half apart, which isn't more than a half.
        self.assertIs(is_voucher(HALF, (1, 2), 2, ((((0, 1), (0, 3)),), 0, 1, (0,))), False)
        self.assertIs(is_voucher(HALF, (1, 3), 2, ((((0, 1), (0, 3)),), 0, 1, (0,))), True)
        self.assertIs(is_voucher(thing=((((1, 0), (0, 2)),), 0, 1, (0,)), steps=1, bound=(0, 1), walk=SAME), True)

    def test_of_no_steps(self):
        none = ((), None, None, None)
        for bound in BOUNDS:
            self.assertIs(is_voucher(ONE, bound, 0, none), True)
            self.assertIs(is_voucher(ONE, bound, 1, none), False)
            self.assertIs(is_voucher(ONE, bound, 1, ((), 0, 0, (0,))), False)
            self.assertIs(is_voucher(ONE, bound, 1, ((), 0, 0, ())), False)
            self.assertIs(is_voucher(HALF, bound, 0, none), False)
            self.assertIs(is_voucher(HALF, bound, 0, ((((0, 1), (0, 0)),), None, None, None)), False)
            for thing in otherwise(none):
                self.assertIs(is_voucher(ONE, bound, 0, thing), is_told_voucher(ONE, bound, 0, thing), thing)
        for three in ((0, None, None), (None, 0, None), (None, None, ()), (0, 0, ()), (False, None, None)):
            self.assertIs(is_voucher(ONE, (0, 1), 0, ((),) + three), False)

    def test_joinings_in_order_of_the_pairs(self):
        walk = Walk(((3, 1, 0), (0, 3, 1), (2, 1, 1)))
        told = first_within(walk, (3, 4))
        joinings = best_joinings(walk, told[1])
        seen = set()
        for order in itertools.permutations(joinings):
            thing = (order,) + told[2][1:]
            seen.add(is_voucher(walk, (3, 4), told[1], thing))
            self.assertIs(is_voucher(walk, (3, 4), told[1], thing), is_told_voucher(walk, (3, 4), told[1], thing))
        self.assertEqual(seen, {True, False})

    def test_all_places_and_sets(self):
        sets = [places for size in range(4) for places in itertools.combinations(range(3), size)]
        for walk in [walk for walk in few_places() if len(walk) == 3 and first_common(walk)]:
            for bound in ((0, 1), (1, 6), (1, 3)):
                for steps in (1, 2, 3):
                    joinings = best_joinings(walk, steps)
                    for place, other, places in itertools.product(range(4), range(-1, 3), sets):
                        thing = (joinings, place, other, places)
                        told = is_told_voucher(walk, bound, steps, thing)
                        self.assertIs(is_voucher(walk, bound, steps, thing), told)

    def test_with_one_thing_otherwise(self):
        kept = 0
        for walk in [HALF, SAME, ONE] + [walk for walk in few_places() if len(walk) in (2, 3) and first_common(walk)]:
            for bound in ((1, 3), (2, 3)):
                told = first_within(walk, bound)
                if told[0] == "at" and told[1] < 8:
                    steps, voucher = told[1:]
                    for thing in otherwise(voucher):
                        judged = is_told_voucher(walk, bound, steps, thing)
                        self.assertIs(is_voucher(walk, bound, steps, thing), judged, thing)
                        kept += judged
                    for other in (steps - 1, steps + 1):
                        if other >= 0:
                            self.assertIs(is_voucher(walk, bound, other, voucher), False)
        self.assertGreater(kept, 0)

    def test_joinings_with_more_parted_than_the_bound(self):
        # Any joining will do that parts no more than the bound, be it not of the least parted.
        walk = Walk(((1, 1), (1, 1)))
        for apart in range(2):
            joining = ((1 - apart, apart), (apart, 1 - apart))
            for bound in BOUNDS:
                thing = ((joining,), 0, 1, (0,))
                self.assertIs(is_voucher(walk, bound, 1, thing), apart == 0)
        walk = Walk(((2, 2), (2, 2)))
        thing = ((((1, 1), (1, 1)),), 0, 1, (0,))
        self.assertIs(is_voucher(walk, (1, 2), 1, thing), True)
        self.assertIs(is_voucher(walk, (499, 1000), 1, thing), False)

    def test_of_anything(self):
        for walk, steps in ((ONE, 0), (ONE, 1), (HALF, 0), (HALF, 1), (great_walks()[0], 1)):
            for thing in anything():
                judged = is_told_voucher(walk, (1, 2), steps, thing)
                self.assertIs(is_voucher(walk, (1, 2), steps, thing), judged, thing)


class Within(Refusals):
    def assert_told(self, walk, bound, most, told):
        """That what is told of a walk is right, found out by going through all steps."""
        self.assertIs(type(told), tuple)
        if not first_common(walk):
            self.assertEqual((told[0], len(told)), ("never", 2))
            self.assertIs(are_told_rings(walk, told[1]), True)
            return
        steps = steps_within(walk, bound, most)
        if steps is None:
            self.assertEqual((told[0], len(told)), ("later", 4))
            self.assertIs(has_more(walk, bound, most, told[1:]), True)
        else:
            self.assertEqual((told[:2], len(told)), (("at", steps), 3))
            self.assertIs(is_told_voucher(walk, bound, steps, told[2]), True)
            self.assertIs(is_voucher(walk, bound, steps, told[2]), True)

    def test_by_hand(self):
        none = ((), None, None, None)
        self.assertEqual(first_within(ONE, (0, 1)), ("at", 0, none))
        self.assertEqual(first_within(ONE, (0, 1), most=0), ("at", 0, none))
        self.assertEqual(first_within(SAME, (0, 1)), ("at", 1, ((((1, 0), (0, 2)),), 0, 1, (0,))))
        self.assertEqual(first_within(HALF, (1, 2)), ("at", 1, (HALVED, 0, 1, (0,))))
        self.assertEqual(first_within(HALF, (1, 2), most=0), ("later", 0, 1, (0,)))
        self.assertEqual(first_within(HALF, (1, 32))[:2], ("at", 5))
        self.assertEqual(first_within(HALF, (1, 33))[:2], ("at", 6))
        self.assertEqual(first_within(HALF, (0, 1), most=100)[0], "later")
        self.assertEqual(first_within(most=9, bound=(1, 2), walk=Walk(((1, 0), (0, 1))))[0], "never")
        self.assertEqual(first_within(ring(3), (GREAT - 1, GREAT))[0], "never")

    def test_many(self):
        answers = set()
        for walk in few_places():
            for bound in ((0, 1), (1, 3), (9, 10)):
                for most in (0, 1, 3, 12):
                    told = first_within(walk, bound, most=most)
                    self.assert_told(walk, bound, most, told)
                    answers.add(told[0])
        self.assertEqual(answers, {"never", "at", "later"})

    def test_at_the_bound_and_just_beyond(self):
        for walk in [walk for walk in few_places() if len(walk) > 1 and first_common(walk)][::2]:
            for steps in (1, 2, 4):
                (above, below), x, y = farthest(walk, steps=steps)
                if 0 < above < below:
                    # Where it lies so far apart for several steps, the first of them is told.
                    first = steps_within(walk, (above, below), steps)
                    self.assertEqual(first_within(walk, (above * 3, below * 3))[:2], ("at", first))
                    self.assertGreater(steps_within(walk, (above * 7 - 1, below * 7), 100) or 101, steps)
                    self.assertEqual(first_within(walk, (above * 7 - 1, below * 7), most=steps)[0], "later")

    def test_most(self):
        walk = lazy(Walk(((0, 1, 1), (1, 0, 1), (1, 1, 0))), 5, 2)
        steps = steps_within(walk, (1, 50), 60)
        self.assertGreater(steps, 3)
        self.assert_told(walk, (1, 50), steps, first_within(walk, (1, 50), most=steps))
        self.assertEqual(first_within(walk, (1, 50), most=steps)[:2], ("at", steps))
        self.assertEqual(first_within(walk, (1, 50), most=steps - 1)[0], "later")
        self.assert_told(walk, (1, 50), steps - 1, first_within(walk, (1, 50), most=steps - 1))
        self.assertEqual(first_within(walk, (1, 50), most=100)[:2], ("at", steps))

    def test_most_left_out(self):
        # By halves it takes as many steps as the bound is halved.
        self.assertEqual(first_within(HALF, (1, 2 ** 60))[:2], ("at", 60))
        told = first_within(HALF, (1, 2 ** 61))
        self.assertEqual(told[0], "later")
        self.assertIs(has_more(HALF, (1, 2 ** 61), 60, told[1:]), True)
        self.assertEqual(first_within(HALF, (1, 2 ** 61), most=61)[:2], ("at", 61))
        self.assertEqual(first_within(HALF, (1, 2 ** 100), most=100)[:2], ("at", 100))
        self.assertEqual(first_within(HALF, (1, 2 ** 101), most=100)[0], "later")

    def test_of_25_places(self):
        for walk in [great_walks()[0], slow_ring(25)] + walks_of(25, 1, most=25, whole=300):
            told = first_within(walk, (1, 2), most=20)
            self.assert_told(walk, (1, 2), 20, told)


class Refusing(Refusals):
    def walks(self):
        return (ONE, HALF, Walk(((1, 0), (0, 1))), ring(3))

    def test_bounds(self):
        for walk in self.walks():
            for bound in no_bounds():
                self.assert_refused(NoBound, is_voucher, walk, bound, 1, None)
                self.assert_refused(NoBound, is_voucher, walk, bound, 101, None)
                self.assert_refused(NoBound, is_voucher, walk, bound, None, ())
                self.assert_refused(NoBound, first_within, walk, bound)
                self.assert_refused(NoBound, first_within, walk, bound, most=101)
            for bound in BOUNDS:
                self.assertIs(is_voucher(walk, bound, 1, None), False)
                self.assertIn(first_within(walk, bound, most=2)[0], ("at", "later", "never"))

    def test_steps(self):
        for walk in self.walks():
            for steps in no_steps():
                self.assert_refused(NoSteps, is_voucher, walk, (1, 2), steps, None)
                self.assert_refused(NoSteps, is_voucher, walk, (1, 2), steps, ((), None, None, None))
                self.assert_refused(NoSteps, first_within, walk, (1, 2), most=steps)
            for steps in (0, 100):
                self.assertIs(is_voucher(walk, (1, 2), steps, None), False)
                self.assertIn(first_within(walk, (1, 2), most=steps)[0], ("at", "later", "never"))

    def test_most_is_handed_in_by_name_alone(self):
        with self.assertRaises(TypeError):
            first_within(HALF, (1, 2), 3)


class Keeping(Refusals):
    def test_nothing_handed_in_is_changed(self):
        for thing in anything():
            ahead = copy.deepcopy(thing)
            first = is_voucher(HALF, (1, 2), 1, thing)
            self.assertIs(is_voucher(HALF, (1, 2), 1, thing), first)
            self.assertEqual(repr(thing), repr(ahead))
        thing = [[1], {2: 3}]
        self.assert_refused(NoBound, first_within, HALF, thing, most=thing)
        self.assert_refused(NoSteps, first_within, HALF, (1, 2), most=thing)
        self.assertEqual(thing, [[1], {2: 3}])

    def test_the_same_asked_again(self):
        for walk in few_places():
            ahead = repr(walk)
            first, again = first_within(walk, (1, 3), most=9), first_within(walk, (1, 3), most=9)
            self.assertEqual(first[0], again[0])
            if first[0] == "at":
                self.assertEqual(first[1], again[1])
            self.assertEqual(repr(walk), ahead)


if __name__ == "__main__":
    unittest.main()
