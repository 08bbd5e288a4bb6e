import copy
import itertools
import unittest
from fractions import Fraction

from fadewalk.errors import NoPlace, NoPlan, NoRest, NoSteps
from fadewalk.stopping import fair_plan, is_fair, is_plan, separation, stopped
from fadewalk.walks import Walk
from samples import (
    GREAT, Refusals, as_pair, deep_list, few_places, great_walks, is_number, no_numbers, no_places, no_steps,
    no_tuples, of_no_rest, of_rest, otherwise, rest_chances, ring, start_chances,
    step_on,
)

ONE = Walk(((3,),))
EVEN = Walk(((1, 1), (1, 1)))
# Its rest is (1, 2).
SLOPE = Walk(((1, 2), (1, 2)))
# Its rest is (1, 4).
STEEP = Walk(((2, 4), (1, 5)))


def separation_by_steps(walk, start, steps):
    """The separation, by the words of the document one by one."""
    chances = start_chances(walk, start, steps)
    return max([Fraction(0)] + [(rest - chance) / rest for rest, chance in zip(rest_chances(walk), chances)])


def has_plan_form(walk, thing):
    """Whether a thing is a scale and rows of as many weights as there are places."""
    if type(thing) is not tuple or len(thing) != 2:
        return False
    scale, rows = thing
    if not is_number(scale, 1) or type(rows) is not tuple or len(rows) < 1:
        return False
    if not all(type(row) is tuple and len(row) == len(walk) for row in rows):
        return False
    return all(is_number(weight) for row in rows for weight in row)


def told_stopped(walk, start, thing):
    """For each row of a plan the fraction that has stopped; None of what is no plan."""
    if not has_plan_form(walk, thing):
        return None
    scale, rows = thing
    stands = [Fraction(int(place == start)) for place in range(len(walk))]
    unit = Fraction(1, scale)
    gone, told = Fraction(0), []
    for row in rows:
        for place, weight in enumerate(row):
            stands[place] -= weight * unit
            gone += weight * unit
        if min(stands) < 0:
            return None
        told.append(gone)
        stands = step_on(walk, stands)
        unit /= walk.whole
    return told


def is_told_fair(walk, start, thing):
    """Whether a thing is a fair plan, by the words of the document one by one."""
    if told_stopped(walk, start, thing) is None:
        return False
    rest = rest_chances(walk)
    places = range(len(walk))
    return all(row[x] * rest[y] == row[y] * rest[x] for row in thing[1] for x in places for y in places)


def some_plans(walk, start):
    """Plans of a start, fair ones and others."""
    many = len(walk)
    stays = tuple(int(place == start) for place in range(many))
    none = (0,) * many
    stepped = walk.rows[start]
    plans = [(1, (stays,)), (1, (none,)), (1, (stays, none, none)), (1, (none, stepped)), (1, (none, none, none))]
    plans += [(5, (tuple(3 * weight for weight in stays), none, walk.power(2)[start])), (GREAT, (none,))]
    plans += [(2, (stays, stepped)), (2, (stays, stepped, none))]
    return plans + [fair_plan(walk, start, steps=steps) for steps in (0, 1, 3)]


def anything():
    """Things of many kinds, made anew for each asker."""
    things = no_tuples() + [
        (), (1,), (1, ()), (1, ((),)), (1, (0,)), (1, ((0,),)), (1, ((1,),)), (1, ((0, 0),)), (1, ((1, 0),)),
        (1, ((0, 0),), ()), (0, ((0, 0),)), (0, ((0,),)), (-1, ((0,),)), (-1, ((0, 0),)), (True, ((0, 0),)),
        (True, ((0,),)), (1, ((False,),)), (1, ((False, 0),)), (1, [(0, 0)]), (1, ([0, 0],)), [1, ((0, 0),)],
        (1, ((0, 0), (0,))), (1, ((0, 0, 0),)), (1, (((0, 0),),)), ((1,), ((0, 0),)), (((0, 0),), 1),
        (1, ((0, -1),)), (1, ((-1, 0),)), deep_list(12), (1, deep_list(11)), ("1", ((0, 0),)), (1, ("", "")),
    ]
    for thing in no_numbers():
        things += [(thing, ((0, 0),)), (1, thing), (1, (thing,)), (1, ((0, thing),)), (thing, thing)]
    return things


class Separation(Refusals):
    def test_by_hand(self):
        self.assertEqual(separation(ONE, 0), (0, 1))
        self.assertEqual(separation(ONE, 0, steps=0), (0, 1))
        self.assertEqual(separation(EVEN, 1, steps=0), (1, 1))
        self.assertEqual(separation(EVEN, 1), (0, 1))
        # From 1 the chances are 1/6 and 5/6, those of the rest 1/5 and 4/5; from 0 they are 1/3 and 2/3.
        self.assertEqual(separation(STEEP, 1), (1, 6))
        self.assertEqual(separation(STEEP, 0), (1, 6))
        self.assertEqual(separation(STEEP, 0, steps=2), (1, 36))
        self.assertEqual(separation(steps=3, start=1, walk=STEEP), (1, 216))
        self.assertEqual(separation(ring(4), 2, steps=100), (1, 1))
        self.assertEqual(separation(Walk(((1, 1, 0), (0, 1, 1), (1, 0, 1))), 0, steps=2), (1, 4))

    def test_against_the_powers(self):
        for walk in of_rest():
            for start in range(len(walk)):
                for steps in (0, 1, 2, 5):
                    told = separation(walk, start, steps=steps)
                    self.assertEqual(told, as_pair(separation_by_steps(walk, start, steps)))
                self.assertEqual(separation(walk, start), separation(walk, start, steps=1))

    def test_many_steps(self):
        for walk in of_rest()[::4]:
            told = separation(walk, len(walk) - 1, steps=100)
            self.assertEqual(told, as_pair(separation_by_steps(walk, len(walk) - 1, 100)))

    def test_of_25_places(self):
        for walk in (great_walks()[0], great_walks()[1], great_walks()[2], great_walks()[-1]):
            self.assertEqual(separation(walk, 7, steps=2), as_pair(separation_by_steps(walk, 7, 2)))


class Plans(Refusals):
    def test_by_hand(self):
        self.assertIs(is_plan(EVEN, 0, (1, ((0, 0),))), True)
        self.assertIs(is_plan(EVEN, 0, (1, ((1, 0),))), True)
        self.assertIs(is_plan(EVEN, 1, (1, ((1, 0),))), False)
        self.assertIs(is_plan(EVEN, 0, (1, ((2, 0),))), False)
        self.assertIs(is_plan(EVEN, 0, (2, ((2, 0),))), True)
        self.assertIs(is_plan(EVEN, 0, (2, ((2, 1),))), False)
        self.assertIs(is_plan(EVEN, 0, (1, ((1, 0), (0, 0)))), True)
        self.assertIs(is_plan(EVEN, 0, (1, ((1, 0), (1, 0)))), False)
        self.assertIs(is_plan(EVEN, 0, (2, ((1, 0), (1, 1)))), True)
        self.assertIs(is_plan(EVEN, 0, (2, ((1, 0), (1, 2)))), False)
        # What doesn't stop in the second row steps on: 1 of each place, that comes to 2 at both.
        self.assertIs(is_plan(EVEN, 0, (3, ((1, 0), (1, 1), (2, 2)))), True)
        self.assertIs(is_plan(EVEN, 0, (3, ((1, 0), (1, 1), (3, 2)))), False)
        self.assertIs(is_plan(EVEN, 0, (0, ((0, 0),))), False)
        self.assertIs(is_plan(EVEN, 0, (1, ())), False)
        self.assertIs(is_plan(thing=(1, ((0, 1),)), start=1, walk=EVEN), True)
        self.assertIs(is_plan(EVEN, 0, (True, ((1, 0),))), False)
        self.assertIs(is_plan(EVEN, 0, (1, ((True, 0),))), False)

    def test_fair_ones_by_hand(self):
        self.assertIs(is_fair(EVEN, 0, (1, ((0, 0),))), True)
        self.assertIs(is_fair(EVEN, 0, (1, ((1, 0),))), False)
        self.assertIs(is_fair(EVEN, 0, (1, ((0, 0), (1, 1)))), True)
        self.assertIs(is_fair(EVEN, 0, (2, ((0, 0), (1, 1), (2, 2)))), True)
        self.assertIs(is_fair(EVEN, 0, (2, ((0, 0), (1, 1), (2, 1)))), False)
        self.assertIs(is_fair(EVEN, 0, (1, ((0, 0), (2, 2)))), False)
        self.assertIs(is_fair(SLOPE, 1, (1, ((0, 0), (1, 2), (0, 0)))), True)
        self.assertIs(is_fair(SLOPE, 1, (1, ((0, 0), (1, 1)))), False)
        self.assertIs(is_fair(SLOPE, 1, (1, ((0, 0), (0, 2)))), False)
        self.assertIs(is_fair(SLOPE, 1, (1, ((0, 0), (1, 0)))), False)
        self.assertIs(is_fair(STEEP, 0, (1, ((0, 0), (1, 4)))), True)
        self.assertIs(is_fair(STEEP, 0, (2, ((0, 0), (1, 4), (3, 12)))), True)
        self.assertIs(is_fair(ONE, 0, (2, ((1,), (2,), (3,)))), True)
        self.assertIs(is_fair(thing=(2, ((3,),)), start=0, walk=ONE), False)

    def test_all_small_plans(self):
        for walk in (EVEN, SLOPE, ring(2)):
            for weights in itertools.product(range(4), repeat=4):
                for scale in (1, 2, 3):
                    thing = (scale, (weights[:2], weights[2:]))
                    for start in range(2):
                        self.assertIs(is_plan(walk, start, thing), told_stopped(walk, start, thing) is not None)
                        self.assertIs(is_fair(walk, start, thing), is_told_fair(walk, start, thing))

    def test_some_plans(self):
        kinds = set()
        for walk in of_rest():
            for start in range(len(walk)):
                for plan in some_plans(walk, start):
                    self.assertIs(is_plan(walk, start, plan), True)
                    fair = is_told_fair(walk, start, plan)
                    self.assertIs(is_fair(walk, start, plan), fair)
                    kinds.add(fair)
        self.assertEqual(kinds, {True, False})

    def test_with_rows_of_noughts(self):
        for walk in of_rest()[::3]:
            none = (0,) * len(walk)
            for rows in (1, 2, 9, 150):
                self.assertIs(is_plan(walk, 0, (1, (none,) * rows)), True)
                self.assertIs(is_fair(walk, 0, (1, (none,) * rows)), True)

    def test_with_one_weight_otherwise(self):
        seen = set()
        for walk in of_rest():
            for start in {0, len(walk) - 1}:
                for scale, rows in some_plans(walk, start):
                    for at, place in itertools.product(range(len(rows)), range(len(walk))):
                        for more in (-1, 1):
                            row = rows[at][:place] + (rows[at][place] + more,) + rows[at][place + 1:]
                            thing = (scale, rows[:at] + (row,) + rows[at + 1:])
                            planned = told_stopped(walk, start, thing) is not None
                            fair = is_told_fair(walk, start, thing)
                            self.assertIs(is_plan(walk, start, thing), planned)
                            self.assertIs(is_fair(walk, start, thing), fair)
                            seen.add((planned, fair))
        self.assertEqual(seen, {(True, True), (True, False), (False, False)})

    def test_with_one_thing_otherwise(self):
        for walk in [ONE, EVEN, SLOPE] + [walk for walk in of_rest() if len(walk) == 3][:3]:
            for start in range(len(walk)):
                for plan in some_plans(walk, start):
                    for thing in otherwise(plan):
                        self.assertIs(is_plan(walk, start, thing), told_stopped(walk, start, thing) is not None, thing)
                        self.assertIs(is_fair(walk, start, thing), is_told_fair(walk, start, thing), thing)

    def test_of_anything(self):
        for walk in (ONE, EVEN, SLOPE, ring(3), great_walks()[0]):
            for thing in anything():
                self.assertIs(is_plan(walk, 0, thing), told_stopped(walk, 0, thing) is not None, thing)
                self.assertIs(is_fair(walk, 0, thing), is_told_fair(walk, 0, thing), thing)


class Stopped(Refusals):
    def test_by_hand(self):
        self.assertEqual(stopped(EVEN, 0, (1, ((0, 0),))), ((0, 1),))
        self.assertEqual(stopped(EVEN, 0, (1, ((1, 0),))), ((1, 1),))
        self.assertEqual(stopped(EVEN, 0, (3, ((1, 0), (1, 1), (2, 0)))), ((1, 3), (2, 3), (5, 6)))
        self.assertEqual(stopped(EVEN, 0, (2, ((1, 0), (0, 0), (0, 1), (1, 1)))), ((1, 2), (1, 2), (5, 8), (3, 4)))
        self.assertEqual(stopped(plan=(4, ((1,), (6,))), start=0, walk=ONE), ((1, 4), (3, 4)))
        self.assertEqual(stopped(SLOPE, 1, (1, ((0, 0), (1, 2), (0, 0)))), ((0, 1), (1, 1), (1, 1)))

    def test_row_by_row(self):
        for walk in of_rest():
            for start in range(len(walk)):
                for plan in some_plans(walk, start):
                    told = stopped(walk, start, plan)
                    self.assertIs(type(told), tuple)
                    self.assertEqual(told, tuple(as_pair(gone) for gone in told_stopped(walk, start, plan)))

    def test_fair_ones_stop_no_more_than_the_separation_leaves(self):
        walk = STEEP
        for weights in itertools.product(range(9), repeat=3):
            thing = (6, tuple((weight, 4 * weight) for weight in weights))
            if is_fair(walk, 0, thing):
                for steps, told in enumerate(stopped(walk, 0, thing)):
                    self.assertLessEqual(Fraction(*told), 1 - separation_by_steps(walk, 0, steps))


class FairPlans(Refusals):
    def assert_best(self, walk, start, steps, plan):
        """That a plan is a fair one of so many steps that stops by each row all that the separation leaves."""
        self.assertIs(has_plan_form(walk, plan), True)
        self.assertEqual(len(plan[1]), steps + 1)
        self.assertIs(is_told_fair(walk, start, plan), True)
        self.assertIs(is_fair(walk, start, plan), True)
        gone = told_stopped(walk, start, plan)
        self.assertEqual(gone, [1 - separation_by_steps(walk, start, step) for step in range(steps + 1)])
        self.assertEqual(stopped(walk, start, plan), tuple(as_pair(part) for part in gone))

    def test_by_hand(self):
        self.assert_best(ONE, 0, 3, fair_plan(ONE, 0, steps=3))
        self.assertEqual(stopped(ONE, 0, fair_plan(ONE, 0, steps=2)), ((1, 1),) * 3)
        self.assertEqual(stopped(EVEN, 1, fair_plan(EVEN, 1)), ((0, 1), (1, 1)))
        self.assertEqual(stopped(STEEP, 0, fair_plan(steps=2, start=0, walk=STEEP)), ((0, 1), (5, 6), (35, 36)))
        self.assertEqual(stopped(ring(3), 0, fair_plan(ring(3), 0, steps=4)), ((0, 1),) * 5)

    def test_of_many(self):
        for walk in of_rest():
            for start in range(len(walk)):
                for steps in (0, 1, 2, 4):
                    self.assert_best(walk, start, steps, fair_plan(walk, start, steps=steps))
                self.assertEqual(len(fair_plan(walk, start)[1]), 2)

    def test_of_many_steps(self):
        for walk in of_rest()[::9]:
            plan = fair_plan(walk, 0, steps=100)
            self.assertEqual(len(plan[1]), 101)
            self.assertIs(is_fair(walk, 0, plan), True)
            told = stopped(walk, 0, plan)
            for steps in (0, 1, 50, 99, 100):
                self.assertEqual(Fraction(*told[steps]), 1 - separation_by_steps(walk, 0, steps))

    def test_of_25_places(self):
        for walk in (great_walks()[0], great_walks()[1], great_walks()[-1]):
            plan = fair_plan(walk, 24, steps=2)
            self.assertIs(is_fair(walk, 24, plan), True)
            gone = [1 - separation_by_steps(walk, 24, steps) for steps in range(3)]
            self.assertEqual(stopped(walk, 24, plan), tuple(as_pair(part) for part in gone))


class Refusing(Refusals):
    def test_rests(self):
        for walk in of_no_rest():
            for start, steps in ((0, 1), (0, 101), (-1, 1), (None, None), (len(walk), -1)):
                self.assert_refused(NoRest, separation, walk, start, steps=steps)
                self.assert_refused(NoRest, fair_plan, walk, start, steps=steps)
                for thing in (None, (1, ((0,) * len(walk),)), [[]]):
                    self.assert_refused(NoRest, is_plan, walk, start, thing)
                    self.assert_refused(NoRest, is_fair, walk, start, thing)
                    self.assert_refused(NoRest, stopped, walk, start, thing)

    def test_places(self):
        for walk in (ONE, EVEN, STEEP, ring(4)):
            for start in no_places(len(walk)):
                for steps in (0, 1, 101, None):
                    self.assert_refused(NoPlace, separation, walk, start, steps=steps)
                    self.assert_refused(NoPlace, fair_plan, walk, start, steps=steps)
                for thing in (None, (1, ((0,) * len(walk),)), ()):
                    self.assert_refused(NoPlace, is_plan, walk, start, thing)
                    self.assert_refused(NoPlace, is_fair, walk, start, thing)
                    self.assert_refused(NoPlace, stopped, walk, start, thing)

    def test_steps(self):
        for walk in (ONE, EVEN, STEEP, ring(4)):
            for steps in no_steps():
                self.assert_refused(NoSteps, separation, walk, 0, steps=steps)
                self.assert_refused(NoSteps, fair_plan, walk, 0, steps=steps)
            for steps in (0, 100):
                self.assertEqual(separation(walk, 0, steps=steps), as_pair(separation_by_steps(walk, 0, steps)))
                self.assertEqual(len(fair_plan(walk, 0, steps=steps)[1]), steps + 1)

    def test_plans(self):
        for walk in (ONE, EVEN, STEEP, ring(3)):
            things = anything() + [thing for plan in some_plans(walk, 0) for thing in otherwise(plan)[:60]]
            for thing in things:
                if told_stopped(walk, 0, thing) is None:
                    self.assert_refused(NoPlan, stopped, walk, 0, thing)
        # A plan of one start is none of the other.
        self.assert_refused(NoPlan, stopped, EVEN, 1, (1, ((1, 0),)))

    def test_steps_are_handed_in_by_name_alone(self):
        for deed in (separation, fair_plan):
            with self.assertRaises(TypeError):
                deed(EVEN, 0, 1)


class Keeping(Refusals):
    def test_nothing_handed_in_is_changed(self):
        for thing in anything():
            ahead = copy.deepcopy(thing)
            first = (is_plan(EVEN, 0, thing), is_fair(EVEN, 0, thing))
            self.assertEqual((is_plan(EVEN, 0, thing), is_fair(EVEN, 0, thing)), first)
            if not first[0]:
                self.assert_refused(NoPlan, stopped, EVEN, 0, thing)
            self.assertEqual(repr(thing), repr(ahead))

    def test_the_same_asked_again(self):
        for walk in few_places():
            if walk in of_no_rest():
                continue
            plan = fair_plan(walk, 0, steps=2)
            ahead = repr((walk, plan))
            self.assertEqual(separation(walk, 0, steps=3), separation(walk, 0, steps=3))
            self.assertEqual(stopped(walk, 0, plan), stopped(walk, 0, plan))
            self.assertEqual(repr((walk, plan)), ahead)


if __name__ == "__main__":
    unittest.main()
