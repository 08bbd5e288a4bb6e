import copy
import math
import unittest
from fractions import Fraction

from fadewalk.errors import NoLot, Unlike
from fadewalk.lots import are_alike, is_lot, least
from samples import no_numbers, no_tuples

GREAT = 999999999999
LOTS = (
    (1,), (7,), (GREAT,), (0, 1), (1, 0), (0, 6), (2, 4), (4, 2), (1, 1), (3, 3, 3), (6, 10, 15), (12, 20, 30),
    (0, 0, 9), (4, 0, 6, 0), (GREAT, GREAT - 1), (GREAT, 0, GREAT), (1,) * 25, (4,) * 25, tuple(range(25)),
    (0,) * 24 + (5,), (5,) + (0,) * 24, (600000000000, 800000000000), (2 ** 700, 6 ** 300, 0, 10 ** 200),
)


def no_lots():
    """Things that are no lot, made anew for each asker."""
    things = no_tuples()
    things += [(), (0,), (0, 0), (0,) * 25, (0,) * 26, (1,) * 26, tuple(range(26)), (0,) * 25 + (1,), (1,) * 39999]
    things += [(-1,), (1, -1), (-1, 1), (2, 3, -GREAT), (3, -1, 2), (-1, 0), ((1, 2),), ((1, 2), (3, 4))]
    things += [(thing,) for thing in no_numbers()]
    things += [(1, thing) for thing in no_numbers()]
    things += [(thing, 0, 4) for thing in no_numbers()]
    things += [(1,) * 24 + (thing,) for thing in no_numbers()]
    return things


def chances(lot):
    return [Fraction(weight, sum(lot)) for weight in lot]


class Telling(unittest.TestCase):
    def test_is_lot(self):
        for lot in LOTS:
            self.assertIs(is_lot(lot), True, lot)

    def test_is_lot_of_anything(self):
        for thing in no_lots():
            self.assertIs(is_lot(thing), False, thing)

    def test_least(self):
        for lot, told in (
            ((7,), (1,)), ((0, 6), (0, 1)), ((2, 4), (1, 2)), ((6, 10, 15), (6, 10, 15)),
            ((12, 20, 30), (6, 10, 15)), ((4, 0, 6, 0), (2, 0, 3, 0)), ((4,) * 25, (1,) * 25),
            ((600000000000, 800000000000), (3, 4)),
        ):
            self.assertEqual(least(lot), told)

    def test_least_ones_keep_the_chances(self):
        for lot in LOTS:
            told = least(lot)
            self.assertIs(type(told), tuple)
            self.assertEqual({type(weight) for weight in told}, {int})
            self.assertEqual(math.gcd(*told), 1)
            self.assertEqual(chances(told), chances(lot))
            self.assertEqual(least(told), told)

    def test_are_alike_of_lots_multiplied(self):
        for lot in LOTS:
            for times in (1, 2, 15, GREAT):
                greater = tuple(weight * times for weight in lot)
                self.assertIs(are_alike(lot, greater), True)
                self.assertIs(are_alike(greater, lot), True)
                self.assertIs(are_alike(greater, tuple(weight * 14 for weight in lot)), True)

    def test_are_alike_with_one_weight_otherwise(self):
        for lot in LOTS:
            for at in range(len(lot)):
                greater = [weight * 3 for weight in lot]
                greater[at] += 1
                # A lot of one place has the chance 1 whatever its weight, and so has a place that alone has weight.
                alike = chances(greater) == chances(lot)
                self.assertIs(are_alike(lot, tuple(greater)), alike)
                self.assertIs(are_alike(tuple(greater), lot), alike)

    def test_are_alike(self):
        self.assertIs(are_alike((3,), (5,)), True)
        self.assertIs(are_alike((0, 3), (0, 5)), True)
        self.assertIs(are_alike((1, 2), (2, 1)), False)
        self.assertIs(are_alike((1, 3), (2, 2)), False)
        self.assertIs(are_alike((0, 1), (1, 0)), False)
        self.assertIs(are_alike((1, 1), (1, 2)), False)
        self.assertIs(are_alike((1,) * 25, (1,) * 24 + (2,)), False)

    def test_by_name(self):
        self.assertIs(is_lot(thing=(1, 2)), True)
        self.assertEqual(least(lot=(2, 4)), (1, 2))
        self.assertIs(are_alike(other=(1, 2), one=(2, 4)), True)


class Refusing(unittest.TestCase):
    def assert_refused(self, kind, deed, *things):
        with self.assertRaises(kind) as taken:
            deed(*things)
        self.assertIs(type(taken.exception), kind)

    def test_least(self):
        for thing in no_lots():
            self.assert_refused(NoLot, least, thing)

    def test_no_lot_ahead_of_unlike(self):
        for thing in no_lots():
            for lot in ((1,), (1, 2), (1,) * 25):
                self.assert_refused(NoLot, are_alike, thing, lot)
                self.assert_refused(NoLot, are_alike, lot, thing)
            self.assert_refused(NoLot, are_alike, thing, thing)
            self.assert_refused(NoLot, are_alike, thing, ())

    def test_unlike(self):
        for one in LOTS:
            for other in LOTS:
                if len(one) != len(other):
                    self.assert_refused(Unlike, are_alike, one, other)
        self.assert_refused(Unlike, are_alike, (1, 2), (1, 2, 0))


class Keeping(unittest.TestCase):
    def test_nothing_handed_in_is_changed(self):
        for thing in no_lots() + list(LOTS):
            ahead = copy.deepcopy(thing)
            is_lot(thing)
            try:
                are_alike(thing, thing)
                least(thing)
            except NoLot:
                pass
            self.assertEqual(repr(thing), repr(ahead))

    def test_the_same_asked_again(self):
        for one in LOTS:
            self.assertIs(is_lot(one), is_lot(one))
            self.assertEqual(least(one), least(one))
            for other in LOTS:
                if len(one) == len(other):
                    first = are_alike(one, other)
                    are_alike(other, one)
                    self.assertIs(are_alike(one, other), first)


if __name__ == "__main__":
    unittest.main()
