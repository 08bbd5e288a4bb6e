import copy
import itertools
import random
import unittest
from fractions import Fraction

from fadewalk.apart import apart, farthest, is_joining, is_paper, paper_of
from fadewalk.errors import NoLot, NoSteps, Unlike
from fadewalk.walks import Walk
from samples import (
    GREAT, Refusals, brought, corner_joining, distance, few_places, great_walks, is_rising, no_numbers, no_steps,
    no_tuples, otherwise, ring, told_joining,
)


def lots_of(many, how_often):
    chooser = random.Random(many)
    lots = [tuple(chooser.choice((0, 0, 1, 2, 3, 6)) for place in range(many)) for time in range(how_often)]
    return [lot for lot in lots if any(lot)]


def pairs():
    """Pairs of lots of as many places: of unlike sums, multiplied, apart wholly, the same."""
    found = [
        ((1,), (1,)), ((1,), (9,)), ((1, 0), (0, 1)), ((1, 1), (1, 1)), ((1, 1), (2, 2)), ((3, 1), (1, 3)),
        ((2, 1), (1, 3)), ((1, 2, 3), (3, 2, 1)), ((4, 0, 2), (0, 9, 0)), ((1, 2, 3), (5, 10, 15)),
        ((0, 1, 1), (1, 0, 0)), ((1, 1, 1), (1, 1, 2)), ((GREAT, 1), (1, GREAT)), ((GREAT, 1, 0), (1, GREAT - 1, 5)),
        ((1,) * 25, tuple(range(25))), ((1,) + (0,) * 24, (0,) * 24 + (7,)),
    ]
    for many in (2, 3, 4, 6):
        lots = lots_of(many, 12)
        found += list(zip(lots, lots[1:]))
    return found


def small_pairs():
    return [pair for pair in pairs() if len(pair[0]) <= 3]


def told_paper(one, other, thing):
    """Whether a thing is a paper, by the words of the document one by one."""
    if type(thing) is not tuple or len(thing) != 2:
        return False
    if not is_rising(thing[0], len(one)) or not told_joining(one, other, thing[1]):
        return False
    first, second = brought(one, other)
    parted = sum(weight for x, row in enumerate(thing[1]) for y, weight in enumerate(row) if x != y)
    return sum(first[place] for place in thing[0]) - sum(second[place] for place in thing[0]) == parted


def sets(many):
    return [places for size in range(many + 1) for places in itertools.combinations(range(many), size)]


def no_lots():
    things = no_tuples() + [(), (0,), (0, 0), (1, -1), (1,) * 26, (0,) * 25, ((1, 2),)]
    return things + [(1, thing) for thing in no_numbers()] + [(thing, 1) for thing in no_numbers()]


class Apart(Refusals):
    def test_by_hand(self):
        self.assertEqual(apart((1, 0), (0, 1)), (1, 1))
        self.assertEqual(apart((1, 1), (2, 2)), (0, 1))
        self.assertEqual(apart((3, 1), (1, 3)), (1, 2))
        self.assertEqual(apart((2, 1), (1, 3)), (5, 12))
        self.assertEqual(apart((7,), (9,)), (0, 1))
        self.assertEqual(apart((1, 2, 3), (3, 2, 1)), (1, 3))
        self.assertEqual(apart((4, 0, 2), (0, 9, 0)), (1, 1))
        self.assertEqual(apart(other=(1, 3), one=(3, 1)), (1, 2))

    def test_against_all_places(self):
        for one, other in pairs():
            worth = distance(one, other)
            for first, second in ((one, other), (other, one)):
                told = apart(first, second)
                self.assertEqual(told, (worth.numerator, worth.denominator))
                self.assertIs(type(told), tuple)

    def test_the_same_chances_and_lots_multiplied(self):
        for one, other in pairs():
            self.assertEqual(apart(one, one), (0, 1))
            for times, others in ((2, 3), (10, 10), (1, GREAT)):
                greater, great = tuple(w * times for w in one), tuple(w * others for w in other)
                self.assertEqual(apart(greater, great), apart(one, other))
                self.assertEqual(apart(one, greater), (0, 1))


class Joinings(Refusals):
    def test_by_hand(self):
        self.assertIs(is_joining((1, 1), (1, 1), ((1, 0), (0, 1))), True)
        self.assertIs(is_joining((1, 1), (1, 1), ((0, 1), (1, 0))), True)
        self.assertIs(is_joining((1, 1), (1, 1), ((2, 0), (0, 2))), False)
        # Brought to one sum, 12, they are (8, 4) and (3, 9).
        self.assertIs(is_joining((2, 1), (1, 3), ((3, 5), (0, 4))), True)
        self.assertIs(is_joining((2, 1), (1, 3), ((3, 0), (5, 4))), False)
        self.assertIs(is_joining((2, 1), (1, 3), ((6, 10), (0, 8))), False)
        self.assertIs(is_joining((1, 1), (2, 2), ((2, 0), (0, 2))), True)
        self.assertIs(is_joining((1, 1), (1, 1), ((2, -1), (-1, 2))), False)
        self.assertIs(is_joining(thing=((6,),), other=(3,), one=(2,)), True)

    def test_many_and_these_with_one_thing_otherwise(self):
        for one, other in small_pairs():
            joinings = [corner_joining(one, other, order) for order in itertools.permutations(range(len(one)))]
            for joining in joinings:
                self.assertIs(told_joining(one, other, joining), True)
                self.assertIs(is_joining(one, other, joining), True)
                for thing in otherwise(joining):
                    self.assertIs(is_joining(one, other, thing), told_joining(one, other, thing), thing)

    def test_of_two_weights_otherwise(self):
        joining = ((1, 0, 1), (0, 2, 0), (1, 0, 0))
        one, other = (2, 2, 1), (2, 2, 1)
        for cells in itertools.permutations(itertools.product(range(3), repeat=2), 4):
            rows = [list(row) for row in joining]
            for (x, y), change in zip(cells, (1, -1, 1, -1)):
                rows[x][y] += change
            thing = tuple(tuple(row) for row in rows)
            self.assertIs(is_joining(one, other, thing), told_joining(one, other, thing))

    def test_of_anything(self):
        for one, other in (((1,), (1,)), ((1, 1), (1, 3)), ((1,) * 25, (1,) * 25)):
            for thing in no_tuples() + [(), ((),), ((1, 2),), ((0,) * 25,) * 25, ((1,), (1,))]:
                self.assertIs(is_joining(one, other, thing), told_joining(one, other, thing))
                self.assertIs(is_paper(one, other, thing), False)
                self.assertIs(is_paper(one, other, (thing, thing)), False)
        diagonal = tuple(tuple(int(x == y) for y in range(25)) for x in range(25))
        self.assertIs(is_joining((1,) * 25, (1,) * 25, diagonal), True)
        self.assertIs(is_joining((1,) * 25, (1,) * 25, diagonal[::-1]), True)
        self.assertIs(is_joining((1,) * 25, (1,) * 25, diagonal[:24]), False)


class Papers(Refusals):
    def test_by_hand(self):
        self.assertEqual(paper_of((2, 1), (1, 3)), ((0,), ((3, 5), (0, 4))))
        self.assertEqual(paper_of((1, 0), (0, 1)), ((0,), ((0, 1), (0, 0))))
        self.assertEqual(paper_of((1, 1), (3, 3)), ((), ((3, 0), (0, 3))))
        self.assertEqual(paper_of(other=(9,), one=(2,)), ((), ((18,),)))
        self.assertIs(is_paper((2, 1), (1, 3), ((0,), ((3, 5), (0, 4)))), True)
        self.assertIs(is_paper((2, 1), (1, 3), ((1,), ((3, 5), (0, 4)))), False)
        self.assertIs(is_paper((1, 1), (1, 1), ((), ((0, 1), (1, 0)))), False)
        self.assertIs(is_paper((1, 1), (1, 1), ((0, 1), ((1, 0), (0, 1)))), True)
        self.assertIs(is_paper(one=(1, 1), other=(1, 1), thing=((1, 0), ((1, 0), (0, 1)))), False)

    def test_the_told_one(self):
        for one, other in pairs():
            for first, second in ((one, other), (other, one)):
                told = paper_of(first, second)
                self.assertIs(told_paper(first, second, told), True)
                self.assertIs(is_paper(first, second, told), True)
                great, small = brought(first, second)
                self.assertEqual(told[0], tuple(x for x in range(len(one)) if great[x] > small[x]))

    def test_its_worth_is_how_far_they_lie_apart(self):
        for one, other in pairs():
            joining = paper_of(one, other)[1]
            parted = sum(sum(row) - row[x] for x, row in enumerate(joining))
            self.assertEqual(Fraction(parted, sum(map(sum, joining))), distance(one, other))

    def test_all_sets_with_many_joinings(self):
        for one, other in pairs():
            if len(one) > 4:
                continue
            orders = list(itertools.permutations(range(len(one))))[::3]
            joinings = [corner_joining(one, other, order) for order in orders] + [paper_of(one, other)[1]]
            for joining in joinings:
                for places in sets(len(one)):
                    thing = (places, joining)
                    self.assertIs(is_paper(one, other, thing), told_paper(one, other, thing))

    def test_with_one_thing_otherwise(self):
        for one, other in small_pairs():
            for thing in otherwise(paper_of(one, other)):
                self.assertIs(is_paper(one, other, thing), told_paper(one, other, thing), thing)

    def test_sets_that_are_none(self):
        joining = ((1, 0, 0), (0, 1, 0), (0, 0, 1))
        for places in (
            (0, 0), (1, 0), (2, 1), (0, 2, 1), (0, 3), (-1,), (3,), (-1, 0), (True,), (False, 1), [0], (None,),
            ("0",), ((0,),),
        ):
            self.assertIs(is_paper((1, 1, 1), (1, 1, 1), (places, joining)), False)
        for places in sets(3):
            self.assertIs(is_paper((1, 1, 1), (2, 2, 2), (places, ((2, 0, 0), (0, 2, 0), (0, 0, 2)))), True)


class Farthest(Refusals):
    def all_pairs(self, walk, steps):
        lots = walk.power(steps)
        found = []
        for x in range(len(walk)):
            for y in range(x, len(walk)):
                found.append((-distance(lots[x], lots[y]), x, y))
        worth, x, y = min(found)
        return ((-worth.numerator, worth.denominator), x, y)

    def test_by_hand(self):
        self.assertEqual(farthest(Walk(((1,),))), ((0, 1), 0, 0))
        self.assertEqual(farthest(Walk(((1, 1), (0, 2)))), ((1, 2), 0, 1))
        self.assertEqual(farthest(Walk(((1, 1), (0, 2))), steps=0), ((1, 1), 0, 1))
        self.assertEqual(farthest(Walk(((1, 1), (0, 2))), steps=5), ((1, 32), 0, 1))
        self.assertEqual(farthest(Walk(((1, 2), (1, 2)))), ((0, 1), 0, 0))
        self.assertEqual(farthest(walk=ring(5), steps=7), ((1, 1), 0, 1))
        self.assertEqual(farthest(Walk(((2, 0, 0), (2, 0, 0), (1, 1, 0)))), ((1, 2), 0, 2))
        self.assertEqual(farthest(Walk(((1, 1, 0), (2, 0, 0), (0, 0, 2)))), ((1, 1), 0, 2))

    def test_against_all_pairs(self):
        for walk in few_places():
            for steps in (0, 1, 2, 3, 8):
                told = farthest(walk, steps=steps)
                self.assertEqual(told, self.all_pairs(walk, steps))
                self.assertIs(type(told), tuple)
            self.assertEqual(farthest(walk), farthest(walk, steps=1))

    def test_many_places_and_many_steps(self):
        for walk in great_walks():
            self.assertEqual(farthest(walk, steps=2), self.all_pairs(walk, 2))
        for walk in few_places()[:12]:
            self.assertEqual(farthest(walk, steps=100), self.all_pairs(walk, 100))

    def test_refused(self):
        for walk in (Walk(((1,),)), ring(3)):
            for steps in no_steps():
                self.assert_refused(NoSteps, farthest, walk, steps=steps)
        with self.assertRaises(TypeError):
            farthest(ring(3), 2)


class Refusing(Refusals):
    def deeds(self):
        return [
            apart, paper_of, lambda one, other: is_joining(one, other, ((1,),)),
            lambda one, other: is_paper(one, other, None),
        ]

    def test_no_lot_ahead_of_unlike(self):
        for deed in self.deeds():
            for thing in no_lots():
                for lot in ((1,), (1, 1), (1,) * 25):
                    self.assert_refused(NoLot, deed, thing, lot)
                    self.assert_refused(NoLot, deed, lot, thing)
                self.assert_refused(NoLot, deed, thing, thing)

    def test_unlike(self):
        for deed in self.deeds():
            for one, other in (((1,), (1, 0)), ((1, 0), (1,)), ((1,) * 24, (1,) * 25), ((1, 2, 3), (1, 2))):
                self.assert_refused(Unlike, deed, one, other)


class Keeping(Refusals):
    def test_nothing_handed_in_is_changed(self):
        for thing in no_tuples() + [([0], ((1,),)), ((), [[1]]), ((), ([1],))]:
            ahead = copy.deepcopy(thing)
            is_joining((1,), (1,), thing)
            is_paper((1,), (1,), thing)
            self.assert_refused(NoLot, apart, thing, thing)
            self.assert_refused(NoLot, paper_of, (1,), thing)
            self.assertEqual(repr(thing), repr(ahead))

    def test_the_same_asked_again(self):
        for one, other in pairs():
            ahead = repr((one, other))
            first, paper = apart(one, other), paper_of(one, other)
            apart(other, one)
            self.assertEqual(apart(one, other), first)
            self.assertEqual(paper_of(one, other)[0], paper[0])
            self.assertIs(is_paper(one, other, paper), is_paper(one, other, paper))
            self.assertEqual(repr((one, other)), ahead)
        for walk in few_places():
            ahead = repr(walk)
            self.assertEqual(farthest(walk, steps=3), farthest(walk, steps=3))
            self.assertEqual(repr(walk), ahead)


if __name__ == "__main__":
    unittest.main()
