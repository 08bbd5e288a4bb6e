import copy
import unittest
from fractions import Fraction

from fadewalk.errors import BadWalk, NoLot, NoPlace, NoSteps, Unlike
from fadewalk.walks import Walk
from samples import (
    GREAT, Refusals, few_places, great_walks, is_number, no_numbers, no_places, no_steps, no_tuples, otherwise,
)

LIKE = ((1, 1), (0, 2))
NO_LOTS = (
    None, True, 3, "", "12", [1, 2], [1, 1], {}, {0: 1}, (), (0,), (0, 0), (1, -1), (1, True), (1, "1"), (1,) * 26,
)


def can_be_walked(thing):
    """The words of the document, gone through one by one."""
    if type(thing) is not tuple or not 1 <= len(thing) <= 25:
        return False
    for row in thing:
        if type(row) is not tuple or len(row) != len(thing) or not all(is_number(weight) for weight in row):
            return False
    return len({sum(row) for row in thing}) == 1 and sum(thing[0]) > 0


def no_rows():
    """Things that are no rows of a walk, made anew for each asker."""
    things = no_tuples()
    things += [
        (), ((),), ((), ()), ((0,),), ((-1,),), ((0, 0), (0, 0)), ((1, -1), (0, 0)), ((2, -1), (0, 1)),
        ((-1, -1), (-1, -1)), ((1, 1),), ((1,), (1,)), ((1, 1), (2,)), ((1, 1), (1, 1, 0)), ((1, 1), (0, 1)),
        ((1, 1), (0, 3)), ((1, 1), (0, 2), (1, 1)), ((1, 0), (0, 0)), ((0, 0), (0, 1)), ((1, 0), (0, 2)),
        ((1, 1, 0), (0, 2, 0)), ((1, 1), (0, 2), ()), (1, 1), ((1, 1), 2), ((1,) * 26,) * 26, ((1,) * 25,) * 24,
        ((1,) * 24,) * 25, ((1,) * 25,) * 26, ((1,) * 26,) * 25, ((1,) * 25,) * 24 + ((1,) * 24 + (2,),), [[1]],
        [(1,)], ([1],), ([1, 1], (0, 2)), ((1, 1), [0, 2]), {0: (1,)}, ("11", "02"), ("1",), ((True,),),
        ((True, 1), (0, 2)), ((1, 1), (False, 2)), (((1,),),), ((((1,),),),),
    ]
    for thing in no_numbers():
        things += [((thing,),), ((1, thing), (0, 2)), ((1, 1), (0, thing)), ((0, 2), thing, (2, 0))]
        things += [(thing, (0, 2), (0, 2))]
    return things


def lot_at(place, many):
    return tuple(1 if at == place else 0 for at in range(many))


def one_step(rows, lot):
    """A step, done weight by weight."""
    told = [0] * len(rows)
    for x, weight in enumerate(lot):
        for y, part in enumerate(rows[x]):
            told[y] += weight * part
    return tuple(told)


def many_steps(rows, lot, steps):
    for step in range(steps):
        lot = one_step(rows, lot)
    return lot


class Making(Refusals):
    def test_values(self):
        for rows, whole in (
            (((1,),), 1), (((GREAT,),), GREAT), (LIKE, 2), (((0, 3), (3, 0)), 3),
            (((1, 2, 3), (6, 0, 0), (0, 6, 0)), 6), (((4,) * 25,) * 25, 100),
            (((GREAT, 0), (1, GREAT - 1)), GREAT),
        ):
            walk = Walk(rows)
            self.assertEqual(walk.rows, rows)
            self.assertIs(type(walk.rows), tuple)
            self.assertEqual(walk.whole, whole)
            self.assertIs(type(walk.whole), int)
            self.assertEqual(len(walk), len(rows))
        self.assertEqual(Walk(rows=LIKE).rows, LIKE)

    def test_weights_that_were_told_may_be_great(self):
        rows = Walk(((GREAT, 1), (3, GREAT - 2))).power(40)
        self.assertGreater(Walk(rows).whole, 10 ** 400)
        self.assertEqual(Walk(rows).rows, rows)

    def test_no_rows(self):
        for thing in no_rows():
            self.assert_refused(BadWalk, Walk, thing)

    def test_rows_with_one_thing_otherwise(self):
        for rows in (((1,),), ((2,),), LIKE, ((0, 3), (3, 0)), ((1, 2, 0), (3, 0, 0), (1, 1, 1))):
            kept = 0
            for thing in otherwise(rows):
                if can_be_walked(thing):
                    self.assertEqual(Walk(thing).rows, thing)
                    kept += 1
                else:
                    self.assert_refused(BadWalk, Walk, thing)
            self.assertGreater(kept, 0)

    def test_one_weight_more_or_less_of_25_places(self):
        rows = ((4,) * 25,) * 25
        for x, y in ((0, 0), (0, 24), (24, 0), (24, 24), (12, 7)):
            for weight in (3, 5, -4, True):
                row = rows[x][:y] + (weight,) + rows[x][y + 1:]
                self.assert_refused(BadWalk, Walk, rows[:x] + (row,) + rows[x + 1:])


class Standing(Refusals):
    def test_repr(self):
        self.assertEqual(repr(Walk(LIKE)), "Walk(((1, 1), (0, 2)))")
        self.assertEqual(repr(Walk(((1,),))), "Walk(((1,),))")
        for walk in few_places() + great_walks():
            self.assertEqual(repr(walk), "Walk(" + repr(walk.rows) + ")")
            self.assertEqual(eval(repr(walk)), walk)

    def test_len(self):
        for many in (1, 2, 24, 25):
            self.assertEqual(len(Walk(((1,) * many,) * many)), many)

    def test_equal_to_one_of_the_same_rows(self):
        for walk in few_places() + great_walks():
            again = Walk(copy.deepcopy(walk.rows))
            self.assertIs(walk == again, True)
            self.assertIs(walk != again, False)
            self.assertIs(walk == walk, True)

    def test_unequal_to_others(self):
        walks = few_places()
        for one in walks:
            for other in walks:
                self.assertIs(one == other, one.rows == other.rows)
                self.assertIs(one != other, one.rows != other.rows)
        # The same chances make no walk == to another one.
        self.assertIs(Walk(LIKE) == Walk(((2, 2), (0, 4))), False)

    def test_unequal_to_things_of_other_kinds(self):
        class Other:
            rows = LIKE
            whole = 2

        walk = Walk(LIKE)
        for thing in no_rows() + [LIKE, repr(walk), 2, Other()]:
            self.assertIs(walk == thing, False)
            self.assertIs(thing == walk, False)
            self.assertIs(walk != thing, True)


class Stepping(Refusals):
    def lots(self, walk):
        many = len(walk)
        great = (GREAT,) + (0,) * (many - 1)
        return [lot_at(0, many), lot_at(many - 1, many), (3,) * many, tuple(range(1, many + 1)), great]

    def test_by_hand(self):
        walk = Walk(((1, 2), (3, 0)))
        self.assertEqual(walk.after((5, 7)), (26, 10))
        self.assertEqual(walk.after((1, 0), steps=2), (7, 2))
        self.assertEqual(walk.power(2), ((7, 2), (3, 6)))
        self.assertEqual(walk.chance(0, 1), (2, 3))
        self.assertEqual(walk.chance(0, 1, steps=2), (2, 9))
        self.assertEqual(walk.chance(1, 0, steps=2), (1, 3))

    def test_after(self):
        for walk in few_places():
            for lot in self.lots(walk):
                for steps in (0, 1, 2, 3, 7):
                    told = walk.after(lot, steps=steps)
                    self.assertEqual(told, many_steps(walk.rows, lot, steps))
                    self.assertIs(type(told), tuple)
                    self.assertEqual(sum(told), sum(lot) * walk.whole ** steps)
                self.assertEqual(walk.after(lot), one_step(walk.rows, lot))
                self.assertEqual(walk.after(lot=lot), one_step(walk.rows, lot))

    def test_after_many_steps(self):
        for walk in few_places()[:8] + great_walks()[-3:]:
            lot = lot_at(0, len(walk))
            self.assertEqual(walk.after(lot, steps=100), many_steps(walk.rows, lot, 100))
            self.assertEqual(walk.after(walk.after(lot, steps=60), steps=40), walk.after(lot, steps=100))

    def test_power(self):
        for walk in few_places():
            many = len(walk)
            for steps in (0, 1, 2, 5):
                told = walk.power(steps)
                self.assertEqual(told, tuple(many_steps(walk.rows, lot_at(x, many), steps) for x in range(many)))
                self.assertEqual({type(row) for row in told} | {type(told)}, {tuple})
            self.assertEqual(walk.power(0), tuple(lot_at(x, many) for x in range(many)))
            self.assertEqual(walk.power(1), walk.rows)
            self.assertEqual(walk.power(steps=3), walk.power(3))

    def test_power_of_many_steps(self):
        for walk in few_places()[:8] + great_walks()[-1:]:
            told = walk.power(100)
            for x in (0, len(walk) - 1):
                self.assertEqual(told[x], many_steps(walk.rows, lot_at(x, len(walk)), 100))

    def test_chance(self):
        for walk in few_places():
            many = len(walk)
            for x in range(many):
                for steps in (0, 1, 2, 5):
                    lot = many_steps(walk.rows, lot_at(x, many), steps)
                    for y in range(many):
                        worth = Fraction(lot[y], walk.whole ** steps)
                        told = walk.chance(x, y, steps=steps)
                        self.assertEqual(told, (worth.numerator, worth.denominator))
                        self.assertIs(type(told), tuple)
                    self.assertEqual(walk.chance(x, x), walk.chance(start=x, place=x, steps=1))

    def test_chance_of_many_steps(self):
        walk = Walk(((GREAT, 1), (2, GREAT - 1)))
        lot = many_steps(walk.rows, (1, 0), 100)
        worth = Fraction(lot[1], (GREAT + 1) ** 100)
        self.assertEqual(walk.chance(0, 1, steps=100), (worth.numerator, worth.denominator))
        self.assertEqual(Walk(((1,) * 25,) * 25).chance(24, 0, steps=100), (1, 25))


class Order(Refusals):
    def test_bounds_of_steps(self):
        walk = Walk(LIKE)
        for steps in no_steps():
            self.assert_refused(NoSteps, walk.after, (1, 1), steps=steps)
            self.assert_refused(NoSteps, walk.power, steps)
            self.assert_refused(NoSteps, walk.chance, 0, 1, steps=steps)
        for steps in (0, 100):
            self.assertEqual(len(walk.after((1, 1), steps=steps)), 2)
            self.assertEqual(len(walk.power(steps)), 2)
            self.assertEqual(len(walk.chance(0, 1, steps=steps)), 2)

    def test_lots(self):
        walk = Walk(LIKE)
        for thing in NO_LOTS:
            self.assert_refused(NoLot, walk.after, thing)
            self.assert_refused(NoLot, walk.after, thing, steps=0)
            self.assert_refused(NoLot, walk.after, thing, steps=101)
        for lot in ((1,), (1, 1, 0), (1,) * 25):
            self.assert_refused(Unlike, walk.after, lot)
            self.assert_refused(Unlike, walk.after, lot, steps=0)
            self.assert_refused(Unlike, walk.after, lot, steps=101)
            self.assert_refused(Unlike, walk.after, lot, steps=None)

    def test_places(self):
        for walk in (Walk(((1,),)), Walk(LIKE), great_walks()[0]):
            for thing in no_places(len(walk)):
                for steps in (0, 1, 101, None):
                    self.assert_refused(NoPlace, walk.chance, thing, 0, steps=steps)
                    self.assert_refused(NoPlace, walk.chance, 0, thing, steps=steps)
                    self.assert_refused(NoPlace, walk.chance, thing, thing, steps=steps)
            last = len(walk) - 1
            self.assertEqual(len(walk.chance(last, last)), 2)

    def test_steps_are_handed_in_by_name_alone(self):
        walk = Walk(LIKE)
        with self.assertRaises(TypeError):
            walk.after((1, 1), 2)
        with self.assertRaises(TypeError):
            walk.chance(0, 1, 2)


class Keeping(Refusals):
    def test_nothing_handed_in_is_changed(self):
        for thing in no_rows():
            ahead = copy.deepcopy(thing)
            self.assert_refused(BadWalk, Walk, thing)
            self.assertEqual(repr(thing), repr(ahead))
        walk = Walk(LIKE)
        for thing in [[1, 2], {0: 1}, [[1], [2]]]:
            ahead = copy.deepcopy(thing)
            self.assert_refused(NoLot, walk.after, thing)
            self.assert_refused(NoPlace, walk.chance, thing, thing, steps=thing)
            self.assert_refused(NoSteps, walk.power, thing)
            self.assertEqual(thing, ahead)

    def test_the_walk_stays_and_tells_the_same_again(self):
        for walk in few_places():
            ahead = repr(walk)
            lot = tuple(range(1, len(walk) + 1))
            first = (walk.after(lot, steps=4), walk.power(4), walk.chance(0, 0, steps=4))
            walk.after(lot, steps=9)
            walk.power(2)
            self.assertEqual((walk.after(lot, steps=4), walk.power(4), walk.chance(0, 0, steps=4)), first)
            self.assertEqual((repr(walk), walk.whole), (ahead, sum(walk.rows[0])))


if __name__ == "__main__":
    unittest.main()
