import copy
import itertools
import unittest

from fadewalk.errors import NoParts
from fadewalk.lumped import fewest_parts, lumps
from fadewalk.making import beside
from fadewalk.walks import Walk
from samples import (
    GREAT, Refusals, deep_list, few_places, great_walks, is_rising, no_numbers, no_tuples, otherwise, ring, slow_ring,
    walks_of,
)

ONE = Walk(((3,),))
# 1 and 2 go on alike.
FORK = Walk(((0, 1, 3), (2, 1, 1), (2, 2, 0)))
# 0 and 1 differ into the part of 2 and 3, and into 4.
UNLIKE = Walk(((2, 0, 1, 1, 0), (0, 2, 1, 0, 1), (1, 1, 1, 1, 0), (2, 0, 0, 2, 0), (4, 0, 0, 0, 0)))


def partitions(places):
    """All parts of some places, as lists of lists."""
    if not places:
        return [[]]
    found = []
    for parts in partitions(places[1:]):
        found.append([[places[0]]] + parts)
        for at in range(len(parts)):
            found.append(parts[:at] + [[places[0]] + parts[at]] + parts[at + 1:])
    return found


def all_parts(many):
    return [tuple(sorted(tuple(sorted(part)) for part in parts)) for parts in partitions(list(range(many)))]


def told_parts(many, thing):
    """Whether a thing is parts, by the words of the document one by one."""
    if type(thing) is not tuple or not all(is_rising(part, many) and len(part) >= 1 for part in thing):
        return False
    if not all(sum(part.count(place) for part in thing) == 1 for place in range(many)):
        return False
    return all(one < other for one, other in zip(thing, thing[1:]))


def into(walk, place, part):
    return sum(walk.rows[place][other] for other in part)


def told_lumps(walk, parts):
    """What is told of a walk and parts, by the words of the document one by one."""
    for x, y in itertools.combinations(range(len(walk)), 2):
        if any(x in part and y in part for part in parts):
            for number, part in enumerate(parts):
                if into(walk, x, part) != into(walk, y, part):
                    return ("no", x, y, number)
    return ("yes", Walk(tuple(tuple(into(walk, part[-1], other) for other in parts) for part in parts)))


def told_fewest(walk, parts):
    """The fewest parts by which the walk lumps, found among all parts."""
    finer = [
        some for some in all_parts(len(walk))
        if all(any(set(part) <= set(held) for held in parts) for part in some) and told_lumps(walk, some)[0] == "yes"
    ]
    least = min(len(some) for some in finer)
    (found,) = [some for some in finer if len(some) == least]
    return found


def by_thirds(many):
    """The parts of each third place."""
    return tuple(tuple(range(first, many, 3)) for first in range(3))


def lumpy(many, seed):
    """A walk that lumps by the parts of each third place."""
    sums = [[(a * b + a + seed) % 4 + 1 for b in range(3)] for a in range(3)]
    whole = max(sum(row) for row in sums)
    for row in sums:
        row[0] += whole - sum(row)
    rows = []
    for x in range(many):
        row = [0] * many
        for b in range(3):
            held = [y for y in range(many) if y % 3 == b]
            left = sums[x % 3][b]
            for at, y in enumerate(held):
                row[y] = left if at == len(held) - 1 else min(left, (x + seed + at) % 3)
                left -= row[y]
        rows.append(tuple(row))
    return Walk(tuple(rows))


def small_walks():
    walks = [walk for walk in few_places() if len(walk) <= 5] + [FORK, UNLIKE]
    return walks + [lumpy(many, seed) for many in (4, 5) for seed in range(4)] + [Walk(((2,) * 5,) * 5)]


def anything():
    """Things of many kinds, made anew for each asker."""
    things = no_tuples() + [
        (), ((),), ((0,),), ((0, 1),), ((0,), (1,)), ((1,), (0,)), ((1, 0),), ((0,), ()), ((), (0,)), ((), (0, 1)),
        ((0,), (0,)), ((0,), (0, 1)), ((0, 0),), ((0, 0), (1,)), ((0,), (1,), (2,)), ((0,), (1,), (1,)), (0, 1),
        ((0, 2), (1,)), ((0,), (2,)), ((0,), (-1,)), ((-1, 0, 1),), ((0, 1, 2),), ((False,), (True,)), ((False, 1),),
        ((0, True),), ([0, 1],), [(0, 1)], [(0,), (1,)], ([0], [1]), (((0, 1),),), ("01",), (("0", "1"),), ({0: 1},),
        ({}, {}), deep_list(12), ((0, GREAT),), ((0,),) * 20000, (None, None), ((None,), (1,)),
    ]
    for thing in no_numbers():
        things += [(thing,), (thing, thing), ((0,), thing), (thing, (1,)), ((0,), (thing,)), ((0, thing),)]
    return things


class Lumps(Refusals):
    def test_by_hand(self):
        self.assertEqual(lumps(ONE, ((0,),)), ("yes", Walk(((3,),))))
        self.assertEqual(lumps(FORK, ((0,), (1, 2))), ("yes", Walk(((0, 4), (2, 2)))))
        self.assertEqual(lumps(FORK, ((0, 1, 2),)), ("yes", Walk(((4,),))))
        self.assertEqual(lumps(FORK, ((0,), (1,), (2,))), ("yes", FORK))
        self.assertEqual(lumps(FORK, ((0, 1), (2,))), ("no", 0, 1, 0))
        self.assertEqual(lumps(parts=((0, 2), (1,)), walk=FORK), ("no", 0, 2, 0))
        self.assertEqual(lumps(UNLIKE, ((0, 1), (2, 3), (4,))), ("no", 0, 1, 1))
        self.assertEqual(lumps(UNLIKE, ((0, 1), (2,), (3,), (4,))), ("no", 0, 1, 2))
        self.assertEqual(lumps(UNLIKE, ((0, 1, 2, 3), (4,))), ("no", 0, 1, 0))
        self.assertEqual(lumps(UNLIKE, ((0, 2, 3), (1, 4))), ("no", 0, 2, 0))
        self.assertEqual(lumps(UNLIKE, ((0,), (1, 4), (2, 3))), ("no", 1, 4, 0))
        # The whole isn't made less, nor are the weights.
        self.assertEqual(lumps(Walk(((2,) * 4,) * 4), ((0, 3), (1, 2))), ("yes", Walk(((4, 4), (4, 4)))))
        self.assertEqual(lumps(ring(4), ((0, 2), (1, 3))), ("yes", Walk(((0, 1), (1, 0)))))
        self.assertEqual(lumps(ring(4), ((0, 1), (2, 3))), ("no", 0, 1, 0))

    def test_the_first_places_as_tuples_compare(self):
        # 0 and 3 lie in one part, 1 and 2 in another; both differ, and so do all of each.
        walk = Walk(((4, 0, 0, 0), (0, 4, 0, 0), (1, 1, 1, 1), (0, 3, 0, 1)))
        self.assertEqual(lumps(walk, ((0, 3), (1, 2))), ("no", 0, 3, 0))
        # 0 and 3 go on alike, 1 and 2 don't, and they differ into the second part, too.
        walk = Walk(((4, 0, 0, 0), (0, 4, 0, 0), (1, 1, 1, 1), (2, 0, 0, 2)))
        self.assertEqual(lumps(walk, ((0, 3), (1, 2))), ("no", 1, 2, 0))
        # Of three places in one part the first and the last differ first, the first two don't.
        walk = Walk(((4, 0, 0), (3, 1, 0), (0, 0, 4)))
        self.assertEqual(lumps(walk, ((0,), (1, 2))), ("no", 1, 2, 0))
        walk = Walk(((2, 1, 1, 0), (1, 2, 1, 0), (2, 2, 0, 0), (0, 0, 3, 1)))
        self.assertEqual(lumps(walk, ((0, 1, 2), (3,))), ("yes", Walk(((4, 0), (3, 1)))))
        walk = Walk(((2, 1, 1, 0), (1, 2, 1, 0), (2, 1, 0, 1), (0, 0, 3, 1)))
        self.assertEqual(lumps(walk, ((0, 1, 2), (3,))), ("no", 0, 2, 0))

    def test_all_parts_of_small_walks(self):
        seen = set()
        for walk in small_walks():
            for parts in all_parts(len(walk)):
                told = lumps(walk, parts)
                self.assertEqual(told, told_lumps(walk, parts))
                self.assertIs(type(told), tuple)
                seen.add(told[0] if told[0] == "yes" else (told[0], told[3]))
                if told[0] == "yes":
                    self.assertEqual((len(told), told[1].whole), (2, walk.whole))
        self.assertTrue({"yes", ("no", 0), ("no", 1), ("no", 2)} <= seen)

    def test_of_25_places(self):
        for walk in great_walks() + [lumpy(25, 2), beside(ring(5), Walk(((1,) * 5,) * 5))]:
            for parts in (
                (tuple(range(25)),), tuple((place,) for place in range(25)), by_thirds(25),
                tuple(tuple(range(5 * a, 5 * a + 5)) for a in range(5)), ((0, 24), tuple(range(1, 24))),
            ):
                self.assertEqual(lumps(walk, parts), told_lumps(walk, parts))


class Fewest(Refusals):
    def test_by_hand(self):
        self.assertEqual(fewest_parts(ONE, ((0,),)), ((0,),))
        self.assertEqual(fewest_parts(FORK, ((0,), (1, 2))), ((0,), (1, 2)))
        self.assertEqual(fewest_parts(FORK, ((0, 1, 2),)), ((0, 1, 2),))
        self.assertEqual(fewest_parts(FORK, ((0, 1), (2,))), ((0,), (1,), (2,)))
        self.assertEqual(fewest_parts(parts=((0,), (1, 2, 3)), walk=ring(4)), ((0,), (1,), (2,), (3,)))
        self.assertEqual(fewest_parts(ring(4), ((0, 2), (1, 3))), ((0, 2), (1, 3)))
        self.assertEqual(fewest_parts(ring(6), ((0, 2, 3, 5), (1, 4))), ((0, 3), (1, 4), (2, 5)))
        # The parts are split again and again, from the last place on.
        line = Walk(tuple(tuple(int(y == min(x + 1, 5)) for y in range(6)) for x in range(6)))
        self.assertEqual(fewest_parts(line, ((0, 1, 2, 3, 4), (5,))), tuple((place,) for place in range(6)))

    def test_all_parts_of_small_walks(self):
        split = set()
        for walk in small_walks():
            for parts in all_parts(len(walk)):
                told = fewest_parts(walk, parts)
                self.assertEqual(told, told_fewest(walk, parts))
                self.assertIs(told_parts(len(walk), told), True)
                self.assertEqual(lumps(walk, told)[0], "yes")
                split.add(len(told) - len(parts))
        self.assertTrue({0, 1, 2, 3} <= split)

    def test_of_more_places(self):
        for walk in great_walks() + [slow_ring(9), lumpy(25, 1), lumpy(12, 3)] + walks_of(12, 3):
            many = len(walk)
            for parts in ((tuple(range(many)),), ((0,), tuple(range(1, many))), by_thirds(many)):
                told = fewest_parts(walk, parts)
                self.assertIs(told_parts(many, told), True)
                self.assertEqual(told_lumps(walk, told)[0], "yes")
                self.assertTrue(all(any(set(part) <= set(held) for held in parts) for part in told))
                if told_lumps(walk, parts)[0] == "yes":
                    self.assertEqual(told, parts)
        self.assertEqual(fewest_parts(lumpy(25, 1), by_thirds(25)), by_thirds(25))


class Refusing(Refusals):
    def test_of_anything(self):
        for walk in (ONE, Walk(((1, 1), (1, 1))), FORK, great_walks()[0]):
            for thing in anything():
                if told_parts(len(walk), thing):
                    self.assertEqual(lumps(walk, thing), told_lumps(walk, thing))
                else:
                    self.assert_refused(NoParts, lumps, walk, thing)
                    self.assert_refused(NoParts, fewest_parts, walk, thing)

    def test_with_one_thing_otherwise(self):
        for walk in (ONE, FORK, ring(4)):
            for parts in all_parts(len(walk)):
                for thing in otherwise(parts):
                    self.assertIs(told_parts(len(walk), thing), False)
                    self.assert_refused(NoParts, lumps, walk, thing)
                    self.assert_refused(NoParts, fewest_parts, walk, thing)

    def test_in_any_order(self):
        for order in itertools.permutations(((0,), (1, 3), (2,))):
            if order == ((0,), (1, 3), (2,)):
                self.assertEqual(fewest_parts(ring(4), order), tuple((place,) for place in range(4)))
            else:
                self.assert_refused(NoParts, lumps, ring(4), order)
                self.assert_refused(NoParts, fewest_parts, ring(4), order)


class Keeping(Refusals):
    def test_nothing_handed_in_is_changed(self):
        for thing in anything():
            ahead = copy.deepcopy(thing)
            if not told_parts(2, thing):
                self.assert_refused(NoParts, lumps, ring(2), thing)
                self.assert_refused(NoParts, fewest_parts, ring(2), thing)
            self.assertEqual(repr(thing), repr(ahead))

    def test_the_same_asked_again(self):
        for walk in small_walks():
            for parts in all_parts(len(walk))[::5]:
                ahead = repr((walk, parts))
                self.assertEqual(lumps(walk, parts), lumps(walk, parts))
                self.assertEqual(fewest_parts(walk, parts), fewest_parts(walk, parts))
                self.assertEqual(repr((walk, parts)), ahead)


if __name__ == "__main__":
    unittest.main()
