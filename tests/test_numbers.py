import copy
import math
import unittest
from fractions import Fraction

from fadewalk.errors import NoFraction
from fadewalk.numbers import added, is_fraction, is_less, multiplied, plain
from samples import no_numbers, no_tuples

GREAT = 999999999999
ORDINARY = (
    (0, 1), (0, 7), (0, GREAT), (1, 1), (5, 5), (1, 2), (2, 4), (3, 6), (-1, 2), (-2, 4), (-3, 1), (-6, 2),
    (7, 3), (14, 6), (100, 8), (1, 3), (333, 1000), (334, 1000), (-333, 1000), (12, 18), (-12, 18), (18, 12),
    (GREAT, 1), (-GREAT, 1), (1, GREAT), (-1, GREAT), (GREAT, GREAT), (GREAT - 1, GREAT), (GREAT, GREAT - 1),
    (GREAT - 2, GREAT - 1), (600000000000, 800000000000), (123456789012, 987654321098),
)


def no_fractions():
    """Things that are no fraction, made anew for each asker."""
    things = no_tuples()
    things += [(), (1,), ((1, 2),), (1, 2, 3), (0, 1, 1), (1, 0), (0, 0), (-1, 0), (1, -1), (-1, -2), (2, -GREAT)]
    things += [(True, 2), (False, 1), (1, True), (0, False), (True, True), ((1, 2), (1, 2))]
    things += [(thing, 2) for thing in no_numbers()]
    things += [(2, thing) for thing in no_numbers()]
    return things


def told_by_the_program():
    """Fractions of far more than twelve figures, each told by the program."""
    one, other = (123456789013, 999999999989), (-999999999988, 123456789012)
    told = []
    for at in range(6):
        one, other = multiplied(one, one), added(other, one)
        told += [one, other]
    return told


def worth(fraction):
    return Fraction(fraction[0], fraction[1])


class Telling(unittest.TestCase):
    def assert_plain(self, told, value):
        self.assertIs(type(told), tuple)
        self.assertEqual([type(part) for part in told], [int, int])
        self.assertGreaterEqual(told[1], 1)
        self.assertEqual(math.gcd(*told), 1)
        self.assertEqual(told, (value.numerator, value.denominator))

    def pairs(self):
        fractions = list(ORDINARY) + told_by_the_program()
        return [(one, other) for one in fractions for other in fractions]

    def test_is_fraction(self):
        for thing in list(ORDINARY) + told_by_the_program():
            self.assertIs(is_fraction(thing), True, thing)

    def test_told_ones_grow_beyond_twelve_figures(self):
        self.assertGreater(max(len(str(below)) for above, below in told_by_the_program()), 300)

    def test_plain(self):
        self.assertEqual(plain((2, 4)), (1, 2))
        self.assertEqual(plain((-2, 4)), (-1, 2))
        self.assertEqual(plain((0, 9)), (0, 1))
        self.assertEqual(plain((9, 3)), (3, 1))
        for fraction in list(ORDINARY) + told_by_the_program():
            self.assert_plain(plain(fraction), worth(fraction))

    def test_plain_of_great_ones_made_otherwise(self):
        for above, below in told_by_the_program():
            self.assert_plain(plain((above * 12, below * 12)), worth((above, below)))

    def test_added(self):
        self.assertEqual(added((1, 2), (1, 3)), (5, 6))
        self.assertEqual(added((1, 6), (1, 3)), (1, 2))
        self.assertEqual(added((2, 4), (-1, 2)), (0, 1))
        for one, other in self.pairs():
            self.assert_plain(added(one, other), worth(one) + worth(other))

    def test_multiplied(self):
        self.assertEqual(multiplied((2, 3), (3, 4)), (1, 2))
        self.assertEqual(multiplied((0, 5), (3, 4)), (0, 1))
        self.assertEqual(multiplied((-1, 2), (-2, 1)), (1, 1))
        for one, other in self.pairs():
            self.assert_plain(multiplied(one, other), worth(one) * worth(other))

    def test_is_less(self):
        self.assertIs(is_less((1, 3), (1, 2)), True)
        self.assertIs(is_less((1, 2), (1, 3)), False)
        self.assertIs(is_less((-1, 2), (-1, 3)), True)
        self.assertIs(is_less((GREAT - 2, GREAT - 1), (GREAT - 1, GREAT)), True)
        self.assertIs(is_less((GREAT - 1, GREAT), (GREAT - 2, GREAT - 1)), False)
        for one, other in self.pairs():
            self.assertIs(is_less(one, other), worth(one) < worth(other))

    def test_is_less_of_equal_worth(self):
        for one, other in (((1, 2), (2, 4)), ((0, 1), (0, 9)), ((-3, 1), (-6, 2)), ((1, 1), (1, 1))):
            self.assertIs(is_less(one, other), False)
            self.assertIs(is_less(other, one), False)

    def test_by_name(self):
        self.assertIs(is_fraction(thing=(1, 2)), True)
        self.assertEqual(plain(fraction=(2, 4)), (1, 2))
        self.assertEqual(added(other=(1, 3), one=(1, 2)), (5, 6))
        self.assertEqual(multiplied(other=(1, 3), one=(1, 2)), (1, 6))
        self.assertIs(is_less(other=(1, 2), one=(1, 3)), True)


class Refusing(unittest.TestCase):
    def assert_refused(self, deed, *things):
        with self.assertRaises(NoFraction) as taken:
            deed(*things)
        self.assertIs(type(taken.exception), NoFraction)

    def test_is_fraction_of_anything(self):
        for thing in no_fractions():
            self.assertIs(is_fraction(thing), False, thing)

    def test_plain(self):
        for thing in no_fractions():
            self.assert_refused(plain, thing)

    def test_those_of_two(self):
        for deed in (added, multiplied, is_less):
            for thing in no_fractions():
                self.assert_refused(deed, thing, (1, 2))
                self.assert_refused(deed, (1, 2), thing)
                self.assert_refused(deed, (0, 1), thing)
                self.assert_refused(deed, thing, thing)


class Keeping(unittest.TestCase):
    def test_nothing_handed_in_is_changed(self):
        for thing in no_fractions() + list(ORDINARY):
            ahead = copy.deepcopy(thing)
            is_fraction(thing)
            for deed in (added, multiplied, is_less):
                try:
                    deed(thing, thing)
                    plain(thing)
                except NoFraction:
                    pass
            self.assertEqual(repr(thing), repr(ahead))

    def test_the_same_asked_again(self):
        for one in ORDINARY:
            self.assertEqual(plain(one), plain(one))
            self.assertIs(is_fraction(one), is_fraction(one))
            for other in ORDINARY:
                for deed in (added, multiplied, is_less):
                    first = deed(one, other)
                    deed(other, one)
                    self.assertEqual(deed(one, other), first)


if __name__ == "__main__":
    unittest.main()
