import math
import unittest
from fractions import Fraction

from fadewalk.errors import NoNumber, NoSteps, TooMany
from fadewalk.making import beside, folded, lazy, plainest
from fadewalk.walks import Walk
from samples import GREAT, Refusals, few_places, great_walks, no_numbers, no_steps, ring, walks_of

HALF = Walk(((1, 1), (0, 2)))


def chances(walk):
    return [[Fraction(weight, walk.whole) for weight in row] for row in walk.rows]


class Plainest(Refusals):
    def test_by_hand(self):
        self.assertEqual(plainest(Walk(((7,),))), Walk(((1,),)))
        self.assertEqual(plainest(Walk(((2, 4), (6, 0)))), Walk(((1, 2), (3, 0))))
        rows = ((6, 10, 14), (30, 0, 0), (0, 0, 30))
        self.assertEqual(plainest(Walk(rows)).rows, ((3, 5, 7), (15, 0, 0), (0, 0, 15)))
        # Each row has a divider of its own, but all have none.
        rows = ((6, 0, 24), (10, 20, 0), (15, 15, 0))
        self.assertEqual(plainest(Walk(rows)).rows, rows)
        self.assertEqual(plainest(HALF), HALF)
        self.assertEqual(plainest(Walk(((4,) * 25,) * 25)), Walk(((1,) * 25,) * 25))
        self.assertEqual(plainest(walk=Walk(((0, 9), (9, 0)))), Walk(((0, 1), (1, 0))))

    def test_chances_stay_and_nothing_divides_all(self):
        for walk in few_places() + great_walks() + [folded(HALF, 100)]:
            told = plainest(walk)
            self.assertIs(type(told), Walk)
            self.assertEqual(chances(told), chances(walk))
            self.assertEqual(math.gcd(*[weight for row in told.rows for weight in row]), 1)
            self.assertEqual(plainest(told), told)


class Lazy(Refusals):
    def test_by_hand(self):
        walk = Walk(((1, 2), (3, 0)))
        self.assertEqual(lazy(walk).rows, ((4, 2), (3, 3)))
        self.assertEqual(lazy(walk, 2).rows, ((7, 2), (3, 6)))
        self.assertEqual(lazy(walk, 2, 5).rows, ((11, 10), (15, 6)))
        self.assertEqual(lazy(walk, go=5).rows, ((8, 10), (15, 3)))
        self.assertEqual(lazy(walk, go=5, stay=2).rows, ((11, 10), (15, 6)))
        self.assertEqual(lazy(walk=walk, stay=0).rows, walk.rows)
        # It isn't made plainest.
        self.assertEqual(lazy(walk, 0, 4).rows, ((4, 8), (12, 0)))
        self.assertEqual(lazy(Walk(((1,),)), 3, 4).rows, ((7,),))
        self.assertEqual(lazy(walk, GREAT, GREAT).whole, 6 * GREAT)

    def test_against_chances(self):
        for walk in few_places() + great_walks()[-1:]:
            for stay, go in ((1, 1), (0, 1), (3, 2), (1, 7)):
                told = lazy(walk, stay, go)
                self.assertEqual(told.whole, walk.whole * (stay + go))
                for x, row in enumerate(chances(told)):
                    for y, chance in enumerate(row):
                        stays = Fraction(stay, stay + go) if x == y else 0
                        self.assertEqual(chance, stays + Fraction(go, stay + go) * chances(walk)[x][y])
            self.assertEqual(lazy(walk), lazy(walk, 1, 1))

    def test_refused(self):
        for thing in no_numbers() + [-1, -GREAT]:
            self.assert_refused(NoNumber, lazy, HALF, thing)
            self.assert_refused(NoNumber, lazy, HALF, thing, 2)
            self.assert_refused(NoNumber, lazy, HALF, 0, thing)
            self.assert_refused(NoNumber, lazy, HALF, go=thing)
            self.assert_refused(NoNumber, lazy, HALF, thing, thing)
        self.assert_refused(NoNumber, lazy, HALF, 1, 0)
        self.assert_refused(NoNumber, lazy, HALF, 0, 0)


class Folded(Refusals):
    def test_by_hand(self):
        walk = Walk(((1, 2), (3, 0)))
        self.assertEqual(folded(walk, 2), Walk(((7, 2), (3, 6))))
        self.assertEqual(folded(walk, 1), walk)
        self.assertEqual(folded(steps=3, walk=ring(4)), Walk(((0, 0, 0, 1), (1, 0, 0, 0), (0, 1, 0, 0), (0, 0, 1, 0))))
        # It isn't made plainest.
        self.assertEqual(folded(Walk(((2, 2), (2, 2))), 2).rows, ((8, 8), (8, 8)))

    def test_is_the_power(self):
        for walk in few_places():
            for steps in (1, 2, 3, 100):
                self.assertEqual(folded(walk, steps).rows, walk.power(steps))
                self.assertEqual(folded(walk, steps).whole, walk.whole ** steps)
            self.assertEqual(folded(folded(walk, 3), 2), folded(walk, 6))

    def test_refused(self):
        for thing in no_steps() + [0]:
            self.assert_refused(NoSteps, folded, HALF, thing)


class Beside(Refusals):
    def test_by_hand(self):
        told = beside(Walk(((1, 2), (3, 0))), Walk(((5, 0), (1, 4))))
        self.assertEqual(told.rows, ((5, 0, 10, 0), (1, 4, 2, 8), (15, 0, 0, 0), (3, 12, 0, 0)))
        self.assertEqual(beside(Walk(((2,),)), HALF).rows, ((2, 2), (0, 4)))
        self.assertEqual(beside(HALF, Walk(((2,),))).rows, ((2, 2), (0, 4)))
        self.assertEqual(beside(other=HALF, one=ring(2)).rows, ((0, 0, 1, 1), (0, 0, 0, 2), (1, 1, 0, 0), (0, 2, 0, 0)))

    def test_all_weights(self):
        small = [walk for walk in few_places() if len(walk) <= 4]
        for one in small[::3]:
            for other in small[::4]:
                told = beside(one, other)
                self.assertEqual((len(told), told.whole), (len(one) * len(other), one.whole * other.whole))
                for x in range(len(one)):
                    for y in range(len(other)):
                        for u in range(len(one)):
                            for v in range(len(other)):
                                weight = told.rows[x * len(other) + y][u * len(other) + v]
                                self.assertEqual(weight, one.rows[x][u] * other.rows[y][v])

    def test_too_many(self):
        walks = {many: ring(many) for many in range(1, 26)}
        for one in walks:
            for other in walks:
                if one * other <= 25:
                    self.assertEqual(len(beside(walks[one], walks[other])), one * other)
                else:
                    taken = self.assert_refused(TooMany, beside, walks[one], walks[other])
                    self.assertEqual((taken.many, taken.most), (one * other, 25))


class Keeping(Refusals):
    def made_of(self, walk):
        return [plainest(walk), lazy(walk, 2, 3), folded(walk, 2), beside(walk, HALF), beside(HALF, walk)]

    def test_walks_stay_and_the_same_is_told_again(self):
        for walk in few_places():
            ahead = repr(walk)
            first = self.made_of(walk)
            self.assertEqual(self.made_of(walk), first)
            self.assertEqual((repr(walk), repr(HALF)), (ahead, "Walk(((1, 1), (0, 2)))"))

    def test_things_refused_stay(self):
        thing = [[1], {2: 3}]
        self.assert_refused(NoNumber, lazy, HALF, thing, thing)
        self.assert_refused(NoSteps, folded, HALF, thing)
        self.assertEqual(thing, [[1], {2: 3}])
        self.assert_refused(TooMany, beside, *walks_of(6, 2))


if __name__ == "__main__":
    unittest.main()
