import copy
import unittest
from fractions import Fraction

from fadewalk.cuts import cut_bound, flow, slowest
from fadewalk.errors import NoRest, NoSet, NoSteps, TooMany
from fadewalk.making import lazy
from fadewalk.walks import Walk
from samples import (
    GREAT, Refusals, as_pair, few_places, great_walks, no_sets, no_steps, of_no_rest, of_one_rest, of_rest,
    otherwise, rest_chances, ring, sets_of_places, step_on, walks_of,
)

ONE = Walk(((3,),))
EVEN = Walk(((1, 1), (1, 1)))
# Its rest is (1, 4).
STEEP = Walk(((2, 4), (1, 5)))
# Two pairs that are left seldom.
PAIRS = Walk(((5, 4, 0, 1), (4, 6, 0, 0), (0, 0, 6, 4), (1, 0, 4, 5)))


def cuts_of(walk):
    """All sets of one place and more, not of all."""
    return [places for places in sets_of_places(len(walk)) if len(places) < len(walk)]


def flow_by_hand(walk, places):
    """What of the rest's chance of a set goes out of it in a step, by the words of the document."""
    rest = rest_chances(walk)
    outside = [place for place in range(len(walk)) if place not in places]
    gone = sum(rest[x] * walk.rows[x][y] for x in places for y in outside)
    return gone / (sum(rest[x] for x in places) * walk.whole)


def slowest_by_hand(walk):
    """The slowest cut, found among all sets of at most half of the rest."""
    rest = rest_chances(walk)
    halves = [places for places in cuts_of(walk) if sum(rest[x] for x in places) <= Fraction(1, 2)]
    if not halves:
        return None
    out, size, places = min((flow_by_hand(walk, places), len(places), places) for places in halves)
    return (as_pair(out), places)


def bound_by_hand(walk, places, steps):
    rest = rest_chances(walk)
    outside = sum(rest[place] for place in range(len(walk)) if place not in places)
    return max(Fraction(0), outside - steps * flow_by_hand(walk, places))


def more_walks():
    """Walks of one rest of up to eight places."""
    walks = of_rest() + [PAIRS, STEEP, ring(7), ring(8)]
    for many in (7, 8):
        walks += [walk for walk in walks_of(many, 6, most=3, seed=9) if of_one_rest(walk)]
    return walks


class Flow(Refusals):
    def test_by_hand(self):
        self.assertEqual(flow(EVEN, (0,)), (1, 2))
        self.assertEqual(flow(EVEN, (1,)), (1, 2))
        self.assertEqual(flow(STEEP, (0,)), (2, 3))
        self.assertEqual(flow(STEEP, (1,)), (1, 6))
        self.assertEqual(flow(ring(4), (0, 1)), (1, 2))
        self.assertEqual(flow(ring(4), (0, 2)), (1, 1))
        self.assertEqual(flow(ring(4), (1, 2, 3)), (1, 3))
        self.assertEqual(flow(PAIRS, (0, 1)), (1, 20))
        self.assertEqual(flow(places=(2, 3), walk=PAIRS), (1, 20))
        # Its rest is (1, 2, 3).
        walk = Walk(((0, 6, 0), (0, 0, 6), (2, 2, 2)))
        self.assertEqual(flow(walk, (0, 1)), (2, 3))
        self.assertEqual(flow(walk, (2,)), (2, 3))
        self.assertEqual(flow(walk, (1, 2)), (1, 5))
        self.assertEqual(flow(walk, (0, 2)), (1, 2))

    def test_of_all_sets(self):
        for walk in of_rest() + [PAIRS, STEEP]:
            for places in cuts_of(walk):
                self.assertEqual(flow(walk, places), as_pair(flow_by_hand(walk, places)))

    def test_of_25_places(self):
        for walk in (great_walks()[0], great_walks()[1], great_walks()[-1]):
            for places in ((0,), (24,), tuple(range(24)), (3, 5, 8, 13, 21)):
                self.assertEqual(flow(walk, places), as_pair(flow_by_hand(walk, places)))


class Slowest(Refusals):
    def test_by_hand(self):
        self.assertIsNone(slowest(ONE))
        self.assertIsNone(slowest(Walk(((GREAT,),))))
        self.assertEqual(slowest(EVEN), ((1, 2), (0,)))
        self.assertEqual(slowest(STEEP), ((2, 3), (0,)))
        self.assertEqual(slowest(PAIRS), ((1, 20), (0, 1)))
        self.assertEqual(slowest(walk=ring(4)), ((1, 2), (0, 1)))
        self.assertEqual(slowest(ring(5)), ((1, 2), (0, 1)))
        self.assertEqual(slowest(ring(8)), ((1, 4), (0, 1, 2, 3)))
        self.assertEqual(slowest(ring(2)), ((1, 1), (0,)))
        self.assertEqual(slowest(Walk(((1,) * 3,) * 3)), ((2, 3), (0,)))
        self.assertEqual(slowest(Walk(((1,) * 8,) * 8)), ((1, 2), (0, 1, 2, 3)))

    def test_of_the_fewest_places_and_the_first(self):
        # Any two neighbours are left as seldom.
        walk = Walk(((8, 1, 0, 1), (1, 8, 1, 0), (0, 1, 8, 1), (1, 0, 1, 8)))
        self.assertEqual(slowest(walk), ((1, 10), (0, 1)))
        # The last place alone is left as seldom as the first two together.
        walk = Walk(((2, 7, 1, 0), (7, 2, 1, 0), (1, 1, 7, 1), (0, 0, 1, 9)))
        self.assertEqual(flow(walk, (0, 1)), (1, 10))
        self.assertEqual(slowest(walk), ((1, 10), (3,)))
        ties = 0
        for walk in more_walks():
            rest = rest_chances(walk)
            halves = [places for places in cuts_of(walk) if sum(rest[x] for x in places) <= Fraction(1, 2)]
            flows = [flow_by_hand(walk, places) for places in halves]
            sizes = {len(places) for places, out in zip(halves, flows) if out == min(flows)}
            ties += len(sizes) > 1
        self.assertGreater(ties, 0)

    def test_against_all_sets(self):
        for walk in more_walks():
            self.assertEqual(slowest(walk), slowest_by_hand(walk))
            self.assertEqual(slowest(lazy(walk, 2, 1)), slowest_by_hand(lazy(walk, 2, 1)))


class Bound(Refusals):
    def test_by_hand(self):
        self.assertEqual(cut_bound(EVEN, (0,), steps=0), (1, 2))
        self.assertEqual(cut_bound(EVEN, (0,)), (0, 1))
        self.assertEqual(cut_bound(EVEN, (0,), steps=2), (0, 1))
        self.assertEqual(cut_bound(PAIRS, (0, 1), steps=0), (1, 2))
        self.assertEqual(cut_bound(PAIRS, (0, 1)), (9, 20))
        self.assertEqual(cut_bound(PAIRS, (2, 3), steps=9), (1, 20))
        self.assertEqual(cut_bound(PAIRS, (2, 3), steps=10), (0, 1))
        self.assertEqual(cut_bound(PAIRS, (2, 3), steps=100), (0, 1))
        self.assertEqual(cut_bound(STEEP, (1,), steps=0), (1, 5))
        self.assertEqual(cut_bound(steps=1, places=(1,), walk=STEEP), (1, 30))
        self.assertEqual(cut_bound(STEEP, (0,), steps=0), (4, 5))
        self.assertEqual(cut_bound(STEEP, (0,)), (2, 15))

    def test_of_all_sets(self):
        for walk in of_rest() + [PAIRS, STEEP, lazy(PAIRS, 9, 1)]:
            for places in cuts_of(walk):
                for steps in (0, 1, 2, 3, 100):
                    told = cut_bound(walk, places, steps=steps)
                    self.assertEqual(told, as_pair(bound_by_hand(walk, places, steps)))
                self.assertEqual(cut_bound(walk, places), cut_bound(walk, places, steps=1))

    def test_the_lot_on_the_set_lies_no_less_apart(self):
        for walk in [PAIRS, STEEP, lazy(ring(6), 3, 1)] + of_rest()[::5]:
            rest = rest_chances(walk)
            for places in cuts_of(walk):
                inside = sum(rest[place] for place in places)
                chances = [rest[place] / inside if place in places else Fraction(0) for place in range(len(walk))]
                for steps in range(4):
                    gap = sum(abs(a - b) for a, b in zip(chances, rest)) / 2
                    self.assertLessEqual(Fraction(*cut_bound(walk, places, steps=steps)), gap)
                    chances = step_on(walk, chances)


class Refusing(Refusals):
    def test_rests(self):
        for walk in of_no_rest():
            for places in ((0,), (), None, (len(walk),), tuple(range(len(walk)))):
                self.assert_refused(NoRest, flow, walk, places)
                for steps in (0, 1, 101, None):
                    self.assert_refused(NoRest, cut_bound, walk, places, steps=steps)
            self.assert_refused(NoRest, slowest, walk)

    def test_sets(self):
        for walk in (ONE, EVEN, PAIRS, ring(3)):
            for places in no_sets(len(walk)) + [tuple(range(len(walk)))]:
                self.assert_refused(NoSet, flow, walk, places)
                for steps in (0, 1, 101, None):
                    self.assert_refused(NoSet, cut_bound, walk, places, steps=steps)

    def test_sets_with_one_thing_otherwise(self):
        for places in cuts_of(PAIRS):
            for thing in otherwise(places):
                if type(thing) is tuple and thing in cuts_of(PAIRS) and not any(type(part) is bool for part in thing):
                    self.assertEqual(flow(PAIRS, thing), as_pair(flow_by_hand(PAIRS, thing)))
                else:
                    self.assert_refused(NoSet, flow, PAIRS, thing)
                    self.assert_refused(NoSet, cut_bound, PAIRS, thing)

    def test_steps(self):
        for steps in no_steps():
            self.assert_refused(NoSteps, cut_bound, EVEN, (0,), steps=steps)
            self.assert_refused(NoSteps, cut_bound, PAIRS, (0, 1, 3), steps=steps)
        for steps in (0, 100):
            self.assertEqual(cut_bound(EVEN, (0,), steps=steps), as_pair(bound_by_hand(EVEN, (0,), steps)))

    def test_too_many_places(self):
        for many in (9, 10, 25):
            refusal = self.assert_refused(TooMany, slowest, ring(many))
            self.assertEqual((refusal.many, refusal.most), (many, 8))
            stays = Walk(tuple(tuple(int(x == y) for y in range(many)) for x in range(many)))
            self.assert_refused(NoRest, slowest, stays)
            # One place that is never come back to is enough for NoRest.
            rows = [list(row) for row in lazy(ring(many)).rows]
            rows[-1][-1], rows[-1][0] = 2, 0
            self.assert_refused(NoRest, slowest, Walk(tuple(tuple(row) for row in rows)))
        self.assertEqual(slowest(ring(8))[0], (1, 4))

    def test_steps_are_handed_in_by_name_alone(self):
        with self.assertRaises(TypeError):
            cut_bound(EVEN, (0,), 1)


class Keeping(Refusals):
    def test_nothing_handed_in_is_changed(self):
        for thing in no_sets(2):
            ahead = copy.deepcopy(thing)
            self.assert_refused(NoSet, flow, EVEN, thing)
            self.assert_refused(NoSet, cut_bound, EVEN, thing, steps=thing)
            self.assertEqual(repr(thing), repr(ahead))

    def test_the_same_asked_again(self):
        for walk in [walk for walk in few_places() if of_one_rest(walk)]:
            ahead = repr(walk)
            self.assertEqual(slowest(walk), slowest(walk))
            for places in cuts_of(walk)[:3]:
                self.assertEqual(flow(walk, places), flow(walk, places))
                self.assertEqual(cut_bound(walk, places), cut_bound(walk, places))
            self.assertEqual(repr(walk), ahead)


if __name__ == "__main__":
    unittest.main()
