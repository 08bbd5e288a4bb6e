import copy
import itertools
import random
import unittest
from fractions import Fraction

from fadewalk.errors import NoPlace, NoRule, NoSteps
from fadewalk.joined import best_rule, is_rule, meets, unmet
from fadewalk.walks import Walk
from samples import (
    GREAT, Refusals, as_pair, corner_joining, deep_list, distance, few_places, great_walks, no_numbers, no_places,
    no_steps, no_tuples, otherwise, ring, told_joining, walks_of,
)

ONE = Walk(((3,),))
HALF = Walk(((1, 1), (0, 2)))
EVEN = Walk(((1, 1), (1, 1)))
TOGETHER = (((1, 0), (0, 1)),)
CROSSED = (((0, 1), (1, 0)),)
# From 0 and 1 the walkers change places or meet in 2; from 0 and 2 they come to 1 and 0, or change places;
# from 1 and 2 they meet in 0, or come to 2 and 0.
THREE = Walk(((0, 1, 1), (1, 0, 1), (2, 0, 0)))
THREE_RULE = (
    ((0, 0, 0), (1, 0, 0), (0, 0, 1)),
    ((0, 0, 0), (1, 0, 0), (1, 0, 0)),
    ((1, 0, 0), (0, 0, 0), (1, 0, 0)),
)


def pairs(many):
    return list(itertools.combinations(range(many), 2))


def told_rule(walk, thing):
    """Whether a thing is a rule, by the words of the document one by one."""
    if type(thing) is not tuple or len(thing) != len(pairs(len(walk))):
        return False
    return all(
        told_joining(walk.rows[x], walk.rows[y], joining) for (x, y), joining in zip(pairs(len(walk)), thing)
    )


def parted(joining):
    return sum(weight for x, row in enumerate(joining) for y, weight in enumerate(row) if x != y)


def rules_of(walk):
    """Some rules of a walk: the told one, and others with more parted."""
    chooser = random.Random(len(walk))
    found = [best_rule(walk)]
    for time in range(3 if len(walk) < 25 else 1):
        order = list(range(len(walk)))
        chooser.shuffle(order)
        found.append(tuple(corner_joining(walk.rows[x], walk.rows[y], order) for x, y in pairs(len(walk))))
    return found


def small_walks():
    return [walk for walk in few_places() if len(walk) <= 4] + [HALF, EVEN, THREE]


def unmet_by_steps(walk, rule, one, other, steps):
    """The chance that two walkers haven't met, each of them followed, whoever stands lower."""
    joinings = dict(zip(pairs(len(walk)), rule))
    stand = {(one, other): Fraction(1)}
    for step in range(steps):
        further = {}
        for (a, b), chance in stand.items():
            if a == b:
                moves = [((at, at), weight) for at, weight in enumerate(walk.rows[a])]
            elif a < b:
                moves = [((u, v), weight) for u, row in enumerate(joinings[a, b]) for v, weight in enumerate(row)]
            else:
                moves = [((v, u), weight) for u, row in enumerate(joinings[b, a]) for v, weight in enumerate(row)]
            for pair, weight in moves:
                if weight:
                    further[pair] = further.get(pair, 0) + chance * Fraction(weight, walk.whole)
        assert sum(further.values()) == 1
        stand = further
    return sum((chance for (a, b), chance in stand.items() if a != b), Fraction(0))


def onward(walk, rule):
    """For each pair the places of both, as sets, to which its joining leads."""
    return {
        pair: {frozenset((u, v)) for u, row in enumerate(joining) for v, weight in enumerate(row) if weight}
        for pair, joining in zip(pairs(len(walk)), rule)
    }


def steps_to_meet(leads, pair):
    """The steps of a shortest way of pairs to one place, or None."""
    seen = {frozenset(pair)}
    waiting = [frozenset(pair)]
    steps = 0
    while waiting:
        if any(len(both) == 1 for both in waiting):
            return steps
        waiting = list({further for both in waiting for further in leads[tuple(sorted(both))]} - seen)
        seen |= set(waiting)
        steps += 1
    return None


def all_to_meet(walk, rule):
    """For each pair the fewest steps to a meeting, or None."""
    leads = onward(walk, rule)
    return {pair: steps_to_meet(leads, pair) for pair in pairs(len(walk))}


def shut_pairs(walk, rule):
    """The greatest set of pairs from which steps lead to such pairs alone, found among all sets of pairs."""
    leads = onward(walk, rule)
    shut = []
    for size in range(len(leads) + 1):
        for some in itertools.combinations(pairs(len(walk)), size):
            both = [frozenset(pair) for pair in some]
            if all(further in both for pair in some for further in leads[pair]):
                shut.append(some)
    greatest = shut[-1]
    assert all(set(some) <= set(greatest) for some in shut)
    return greatest


def anything():
    """Things of many kinds, made anew for each asker."""
    things = no_tuples() + [
        (), ((),), ((), ()), (((),),), ((0,),), (((0,),),), (((3,),),), TOGETHER[0], TOGETHER, CROSSED, TOGETHER * 2,
        (((0, 1), (0, 1)),), [((0, 1), (0, 1))], ([(0, 1), (0, 1)],), (([0, 1], (0, 1)),), (((0, True), (0, 1)),),
        (((False, 1), (0, 1)),), (((0, 1), (-1, 2)),), THREE_RULE, THREE_RULE[:2], deep_list(12), ((((),),),),
    ]
    for thing in no_numbers():
        things += [(thing,), (thing, thing, thing), ((thing, thing),), (((thing, 1), (0, 1)),), (((0, 1), thing),)]
    return things


class Rules(Refusals):
    def test_by_hand(self):
        self.assertIs(is_rule(HALF, (((0, 1), (0, 1)),)), True)
        self.assertIs(is_rule(HALF, (((0, 1), (1, 0)),)), False)
        self.assertIs(is_rule(HALF, (((0, 0), (1, 1)),)), False)
        self.assertIs(is_rule(HALF, (((0, 2), (0, 2)),)), False)
        self.assertIs(is_rule(HALF, (((1, 0), (0, 1)),)), False)
        self.assertIs(is_rule(EVEN, TOGETHER), True)
        self.assertIs(is_rule(EVEN, CROSSED), True)
        self.assertIs(is_rule(EVEN, TOGETHER * 2), False)
        self.assertIs(is_rule(EVEN, ()), False)
        self.assertIs(is_rule(EVEN, TOGETHER[0]), False)
        self.assertIs(is_rule(EVEN, (((2, -1), (-1, 2)),)), False)
        self.assertIs(is_rule(THREE, THREE_RULE), True)
        self.assertIs(is_rule(thing=THREE_RULE[::-1], walk=THREE), False)
        self.assertIs(is_rule(EVEN, (((True, 0), (0, 1)),)), False)
        self.assertIs(is_rule(EVEN, (((1, False), (0, 1)),)), False)

    def test_of_one_place(self):
        self.assertIs(is_rule(ONE, ()), True)
        self.assertEqual(best_rule(ONE), ())
        for thing in anything():
            self.assertIs(is_rule(ONE, thing), thing == () and type(thing) is tuple, thing)

    def test_all_joinings_of_two_places(self):
        for walk in [walk for walk in small_walks() if len(walk) == 2 and walk.whole <= 4]:
            for weights in itertools.product(range(-1, walk.whole + 1), repeat=4):
                thing = ((weights[:2], weights[2:]),)
                self.assertIs(is_rule(walk, thing), told_rule(walk, thing))

    def test_some_rules_of_many(self):
        for walk in few_places() + great_walks():
            for rule in rules_of(walk):
                self.assertIs(is_rule(walk, rule), True)

    def test_joinings_more_fewer_and_exchanged(self):
        seen = set()
        for walk in few_places():
            rule = rules_of(walk)[-1]
            for at in range(len(rule)):
                things = [rule[:at] + rule[at + 1:], rule[:at] + (rule[at],) + rule[at:], rule[at:] + rule[:at]]
                things.append(rule[:at] + (tuple(zip(*rule[at])),) + rule[at + 1:])
                for other in range(at):
                    changed = list(rule)
                    changed[at], changed[other] = rule[other], rule[at]
                    things.append(tuple(changed))
                for thing in things:
                    self.assertIs(is_rule(walk, thing), told_rule(walk, thing))
                    seen.add(is_rule(walk, thing))
        self.assertEqual(seen, {True, False})

    def test_with_one_thing_otherwise(self):
        for walk in [walk for walk in small_walks() if len(walk) in (2, 3)]:
            for rule in rules_of(walk)[:2]:
                for thing in otherwise(rule):
                    self.assertIs(is_rule(walk, thing), told_rule(walk, thing), thing)

    def test_one_weight_otherwise_of_many(self):
        for walk in great_walks() + walks_of(6, 2):
            rule = best_rule(walk)
            for at in (0, len(rule) // 2, len(rule) - 1):
                for x, y, more in ((0, 0, 1), (2, 1, 1), (5, 5, -1)):
                    joining = [list(row) for row in rule[at]]
                    joining[x][y] += more
                    thing = rule[:at] + (tuple(tuple(row) for row in joining),) + rule[at + 1:]
                    self.assertIs(is_rule(walk, thing), False)

    def test_of_anything(self):
        for walk in (HALF, EVEN, THREE, ring(3), great_walks()[0]):
            for thing in anything():
                self.assertIs(is_rule(walk, thing), told_rule(walk, thing), thing)

    def test_the_told_one_parts_the_least(self):
        for walk in few_places() + great_walks():
            rule = best_rule(walk)
            self.assertIs(told_rule(walk, rule), True)
            for (x, y), joining in zip(pairs(len(walk)), rule):
                self.assertEqual(Fraction(parted(joining), walk.whole), distance(walk.rows[x], walk.rows[y]))


class Unmet(Refusals):
    def test_by_hand(self):
        rule = best_rule(HALF)
        for steps in range(6):
            self.assertEqual(unmet(HALF, rule, 0, 1, steps=steps), (1, 2 ** steps))
            self.assertEqual(unmet(HALF, rule, 1, 0, steps=steps), (1, 2 ** steps))
            self.assertEqual(unmet(HALF, rule, 1, 1, steps=steps), (0, 1))
            self.assertEqual(unmet(EVEN, CROSSED, 0, 1, steps=steps), (1, 1))
            self.assertEqual(unmet(EVEN, TOGETHER, 0, 1, steps=steps), (int(steps == 0), 1))
        self.assertEqual(unmet(HALF, rule, 0, 1), (1, 2))
        self.assertEqual(unmet(HALF, rule, 0, 1, steps=100), (1, 2 ** 100))
        self.assertEqual(unmet(steps=2, other=0, one=1, rule=rule, walk=HALF), (1, 4))
        # From 0 and 1: to 0 and 1 again, or meeting in 2.
        self.assertEqual(unmet(THREE, THREE_RULE, 0, 1), (1, 2))
        self.assertEqual(unmet(THREE, THREE_RULE, 1, 0, steps=3), (1, 8))
        # From 0 and 2: to 1 and 0, or to 2 and 0; from 1 and 2: meeting in 0, or to 2 and 0.
        self.assertEqual(unmet(THREE, THREE_RULE, 0, 2), (1, 1))
        self.assertEqual(unmet(THREE, THREE_RULE, 0, 2, steps=2), (3, 4))
        self.assertEqual(unmet(THREE, THREE_RULE, 2, 0, steps=2), (3, 4))
        self.assertEqual(unmet(THREE, THREE_RULE, 2, 1), (1, 2))
        self.assertEqual(unmet(THREE, THREE_RULE, 1, 2, steps=3), (3, 8))

    def test_step_by_step(self):
        for walk in few_places():
            for rule in rules_of(walk)[:3]:
                for one, other in itertools.product(range(len(walk)), repeat=2):
                    steps = (one + 2 * other) % 5
                    told = unmet(walk, rule, one, other, steps=steps)
                    self.assertEqual(told, as_pair(unmet_by_steps(walk, rule, one, other, steps)))
                    self.assertEqual(unmet(walk, rule, other, one, steps=steps), told)
                    self.assertEqual(unmet(walk, rule, one, other, steps=0), (int(one != other), 1))
                    self.assertEqual(unmet(walk, rule, one, other), unmet(walk, rule, one, other, steps=1))

    def test_many_steps(self):
        for walk in [walk for walk in few_places() if len(walk) in (2, 3)][::3]:
            rule = rules_of(walk)[2]
            told = unmet(walk, rule, 0, len(walk) - 1, steps=100)
            self.assertEqual(told, as_pair(unmet_by_steps(walk, rule, 0, len(walk) - 1, 100)))

    def test_no_less_than_what_the_lots_lie_apart(self):
        for walk in few_places()[::2]:
            for rule in rules_of(walk):
                for steps in (1, 3):
                    lots = walk.power(steps)
                    for one, other in pairs(len(walk)):
                        told = Fraction(*unmet(walk, rule, one, other, steps=steps))
                        self.assertGreaterEqual(told, distance(lots[one], lots[other]))

    def test_of_25_places(self):
        for walk in great_walks():
            for rule in rules_of(walk)[:2]:
                self.assertEqual(unmet(walk, rule, 24, 3, steps=2), as_pair(unmet_by_steps(walk, rule, 24, 3, 2)))
        walk = great_walks()[-1]
        self.assertLess(Fraction(*unmet(walk, best_rule(walk), 0, 24, steps=100)), Fraction(1, 1000))

    def test_of_one_place(self):
        for steps in (0, 1, 7, 100):
            self.assertEqual(unmet(ONE, (), 0, 0, steps=steps), (0, 1))


class Meets(Refusals):
    def test_by_hand(self):
        self.assertEqual(meets(ONE, ()), ("yes", 0))
        self.assertEqual(meets(HALF, best_rule(HALF)), ("yes", 1))
        self.assertEqual(meets(EVEN, TOGETHER), ("yes", 1))
        self.assertEqual(meets(EVEN, CROSSED), ("no", ((0, 1),)))
        self.assertEqual(meets(THREE, THREE_RULE), ("yes", 2))
        self.assertEqual(meets(rule=best_rule(ring(3)), walk=ring(3)), ("no", ((0, 1), (0, 2), (1, 2))))
        # 0 leads to 1, 1 to 2, 2 to 3, where it stays: the last two meet first, the first and the last at last.
        line = Walk(((0, 1, 0, 0), (0, 0, 1, 0), (0, 0, 0, 1), (0, 0, 0, 1)))
        self.assertEqual(meets(line, best_rule(line)), ("yes", 3))
        # 2 leads to either of two places that stay, so with either it may meet.
        fork = Walk(((2, 0, 0), (0, 2, 0), (1, 1, 0)))
        self.assertEqual(meets(fork, best_rule(fork)), ("no", ((0, 1),)))

    def test_against_ways_and_all_sets_of_pairs(self):
        answers = set()
        for walk in small_walks() + [ring(4), Walk(((1, 0, 0, 0), (0, 1, 0, 0), (0, 0, 1, 0), (0, 0, 0, 1)))]:
            for rule in rules_of(walk):
                told = meets(walk, rule)
                self.assertIs(type(told), tuple)
                self.assertEqual(len(told), 2)
                shut = shut_pairs(walk, rule)
                if shut:
                    self.assertEqual(told, ("no", shut))
                else:
                    self.assertEqual(told, ("yes", max(all_to_meet(walk, rule).values(), default=0)))
                    self.assertIs(type(told[1]), int)
                answers.add(told[0] if shut else min(told[1], 3))
        self.assertTrue({"no", 0, 1, 2, 3} <= answers)

    def test_of_more_places(self):
        for walk in few_places() + great_walks():
            for rule in rules_of(walk)[:2]:
                steps = all_to_meet(walk, rule)
                never = tuple(pair for pair in steps if steps[pair] is None)
                told = ("no", never) if never else ("yes", max(steps.values(), default=0))
                self.assertEqual(meets(walk, rule), told)

    def test_pairs_that_never_meet_stay_unmet(self):
        for walk in few_places():
            rule = rules_of(walk)[1]
            answer, shown = meets(walk, rule)
            for one, other in pairs(len(walk)):
                never = answer == "no" and (one, other) in shown
                self.assertEqual(unmet(walk, rule, one, other, steps=15) == (1, 1), never)


class Refusing(Refusals):
    def test_rules(self):
        for walk in (ONE, HALF, EVEN, THREE, ring(4)):
            things = anything() + [thing for thing in otherwise(best_rule(walk))[:200]]
            for thing in things:
                if not told_rule(walk, thing):
                    self.assert_refused(NoRule, unmet, walk, thing, 0, 0)
                    self.assert_refused(NoRule, unmet, walk, thing, 0, 0, steps=0)
                    self.assert_refused(NoRule, unmet, walk, thing, -1, None, steps=101)
                    self.assert_refused(NoRule, meets, walk, thing)

    def test_places(self):
        for walk in (ONE, HALF, EVEN, THREE, ring(4)):
            rule = best_rule(walk)
            for thing in no_places(len(walk)):
                self.assert_refused(NoPlace, unmet, walk, rule, thing, 0)
                self.assert_refused(NoPlace, unmet, walk, rule, 0, thing)
                self.assert_refused(NoPlace, unmet, walk, rule, thing, thing, steps=0)
                self.assert_refused(NoPlace, unmet, walk, rule, 0, thing, steps=101)
                self.assert_refused(NoPlace, unmet, walk, rule, thing, 0, steps=None)
            last = len(walk) - 1
            self.assertEqual(unmet(walk, rule, last, last), (0, 1))

    def test_steps(self):
        for walk in (ONE, HALF, THREE):
            rule = best_rule(walk)
            for steps in no_steps():
                self.assert_refused(NoSteps, unmet, walk, rule, 0, 0, steps=steps)
                self.assert_refused(NoSteps, unmet, walk, rule, 0, len(walk) - 1, steps=steps)
            for steps in (0, 100):
                self.assertEqual(unmet(walk, rule, 0, 0, steps=steps), (0, 1))

    def test_steps_are_handed_in_by_name_alone(self):
        with self.assertRaises(TypeError):
            unmet(HALF, best_rule(HALF), 0, 1, 2)


class Keeping(Refusals):
    def test_nothing_handed_in_is_changed(self):
        for thing in anything():
            ahead = copy.deepcopy(thing)
            for walk in (ONE, HALF, EVEN):
                first = is_rule(walk, thing)
                self.assertIs(is_rule(walk, thing), first)
                if not first:
                    self.assert_refused(NoRule, unmet, walk, thing, thing, thing, steps=thing)
                    self.assert_refused(NoRule, meets, walk, thing)
            self.assertEqual(repr(thing), repr(ahead))

    def test_the_same_asked_again(self):
        for walk in few_places() + [Walk(((GREAT, 1), (2, GREAT - 1)))]:
            rule = rules_of(walk)[1]
            ahead = repr((walk, rule))
            last = len(walk) - 1
            self.assertEqual(unmet(walk, rule, 0, last, steps=4), unmet(walk, rule, 0, last, steps=4))
            self.assertEqual(meets(walk, rule), meets(walk, rule))
            self.assertEqual(repr((walk, rule)), ahead)


if __name__ == "__main__":
    unittest.main()
