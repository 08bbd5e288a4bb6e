import copy
import itertools
import unittest

from fadewalk.forgetting import are_rings, forgets, is_meeting
from fadewalk.walks import Walk
from samples import (
    Refusals, are_told_rings, deep_list, few_places, first_common, great_walks, is_number, is_told_way, next_of,
    no_numbers, no_tuples, otherwise, ring, slow_ring,
)

HALF = Walk(((1, 1), (0, 2)))
STAYS = Walk(((1, 0, 0), (0, 1, 0), (0, 0, 1)))
# Each of the first two leads to the last two, and back; 4 leads into them.
PAIRS = Walk(((0, 0, 1, 1, 0), (0, 0, 2, 0, 0), (1, 1, 0, 0, 0), (0, 2, 0, 0, 0), (1, 0, 0, 0, 1)))


def is_told_meeting(walk, thing):
    """Whether a thing is a meeting, by the words of the document one by one."""
    if type(thing) is not tuple or len(thing) != 3:
        return False
    steps, place, ways = thing
    if not is_number(steps) or not is_number(place, 0, len(walk)) or type(ways) is not tuple or len(ways) != len(walk):
        return False
    for start, way in enumerate(ways):
        if not is_told_way(walk, way) or len(way) != steps + 1 or way[0] != start or way[-1] != place:
            return False
    return True


def longer(walk, meeting):
    """Meetings of one step more, made of one by going on together."""
    steps, place, ways = meeting
    return [(steps + 1, other, tuple(way + (other,) for way in ways)) for other in next_of(walk, place)]


def anything():
    """Things of many kinds, most of them neither a meeting nor rings, made anew for each asker."""
    things = no_tuples() + [
        (), ((),), ((), ()), ((), (), ()), (0, 0), (0, 0, ()), (0, 0, ((),)), (((),), ((),)), (((0,),), ()), (0, 0, 0),
        (((0,),), ((0,),), ((0,),)), (deep_list(9), deep_list(9)), ("yes", (0, 0, ((0,),))), (-1, 0, ((),)),
    ]
    for thing in no_numbers():
        things += [
            (thing, 0, ((0,),)), (0, thing, ((0,),)), (0, 0, thing), (0, 0, (thing, thing, thing)), (thing, thing),
            ((thing,), (thing,)), (((thing,),), ((thing,),)), (((0,),), thing), (thing, ((0,),)),
            (((0,),), ((1,), thing)), (((0,), (0,)), ((1,), (thing,))), (((0, thing),), ((1,),)),
        ]
    return things


class Meetings(Refusals):
    def test_by_hand(self):
        self.assertIs(is_meeting(Walk(((7,),)), (0, 0, ((0,),))), True)
        self.assertIs(is_meeting(Walk(((7,),)), (2, 0, ((0, 0, 0),))), True)
        self.assertIs(is_meeting(Walk(((7,),)), (1, 0, ((0,),))), False)
        self.assertIs(is_meeting(HALF, (1, 1, ((0, 1), (1, 1)))), True)
        self.assertIs(is_meeting(HALF, (2, 1, ((0, 0, 1), (1, 1, 1)))), True)
        self.assertIs(is_meeting(HALF, (2, 1, ((0, 1, 1), (1, 1, 1)))), True)
        # The steps are otherwise, the place is, a step has no weight, the starts are not in order.
        self.assertIs(is_meeting(HALF, (2, 1, ((0, 1), (1, 1)))), False)
        self.assertIs(is_meeting(HALF, (1, 0, ((0, 1), (1, 1)))), False)
        self.assertIs(is_meeting(HALF, (1, 0, ((0, 0), (1, 0)))), False)
        self.assertIs(is_meeting(HALF, (1, 1, ((1, 1), (0, 1)))), False)
        self.assertIs(is_meeting(HALF, (1, 1, ((0, 1),))), False)
        self.assertIs(is_meeting(HALF, (1, 1, ((0, 1), (0, 1)))), False)
        self.assertIs(is_meeting(HALF, (0, 1, ((0,), (1,)))), False)
        self.assertIs(is_meeting(thing=(1, 1, ((0, 1), (1, 1))), walk=HALF), True)

    def test_truths_are_no_numbers(self):
        for thing in (
            (True, 1, ((0, 1), (1, 1))), (1, True, ((0, 1), (1, 1))), (1, 1, ((False, 1), (1, 1))),
            (1, 1, ((0, True), (1, 1))), (1, 1, ((0, 1), (1, True))),
        ):
            self.assertIs(is_meeting(HALF, thing), False)
        self.assertIs(is_meeting(Walk(((1,),)), (False, 0, ((0,),))), False)
        self.assertIs(is_meeting(Walk(((1,),)), (0, False, ((0,),))), False)

    def test_of_more_steps(self):
        for walk in few_places() + great_walks():
            if first_common(walk):
                meetings = [forgets(walk)[1]]
                for step in range(3):
                    meetings = [other for meeting in meetings for other in longer(walk, meeting)][:4]
                    for meeting in meetings:
                        self.assertIs(is_meeting(walk, meeting), True)

    def test_of_more_than_a_hundred_steps(self):
        walk = slow_ring(25)
        meeting = forgets(walk)[1]
        self.assertGreater(meeting[0], 100)
        self.assertIs(is_meeting(walk, meeting), True)
        self.assertIs(is_meeting(walk, (meeting[0] - 1,) + meeting[1:]), False)

    def test_with_one_thing_otherwise(self):
        for walk in few_places():
            if len(walk) <= 4 and first_common(walk):
                meeting = forgets(walk)[1]
                for thing in otherwise(meeting) + otherwise(longer(walk, meeting)[0]):
                    self.assertIs(is_meeting(walk, thing), is_told_meeting(walk, thing), thing)

    def test_of_walks_that_have_none(self):
        for size in range(1, 4):
            ways = list(itertools.product(range(2), repeat=size))
            for meeting in itertools.product(range(4), range(2), itertools.product(ways, repeat=2)):
                self.assertIs(is_meeting(ring(2), meeting), False)

    def test_of_anything(self):
        for walk in (Walk(((1,),)), HALF, STAYS, ring(3), great_walks()[0]):
            for thing in anything():
                self.assertIs(is_meeting(walk, thing), is_told_meeting(walk, thing), thing)


class Rings(Refusals):
    def test_by_hand(self):
        self.assertIs(are_rings(STAYS, (((0,),), ((1,),))), True)
        self.assertIs(are_rings(STAYS, (((0, 2),), ((1,),))), True)
        self.assertIs(are_rings(STAYS, (((2, 0),), ((1,),))), False)
        self.assertIs(are_rings(STAYS, (((0, 1),), ((1,),))), False)
        self.assertIs(are_rings(STAYS, (((0,), (0,)), ((1,), (1,)))), True)
        self.assertIs(are_rings(STAYS, (((0,), (0,)), ((1,),))), False)
        self.assertIs(are_rings(STAYS, (((0,), (0, 2)), ((1,), (1,)))), False)
        self.assertIs(are_rings(STAYS, ((), ())), False)
        self.assertIs(are_rings(STAYS, (((0,),), ((),))), False)
        self.assertIs(are_rings(STAYS, (((),), ((0,),))), False)
        self.assertIs(are_rings(ring(2), (((0,), (1,)), ((1,), (0,)))), True)
        self.assertIs(are_rings(ring(2), (((0,), (1,)), ((0,), (1,)))), False)
        self.assertIs(are_rings(ring(2), (((0,),), ((1,),))), False)
        self.assertIs(are_rings(ring(2), (((0,), (1,), (0,)), ((1,), (0,), (1,)))), False)
        self.assertIs(are_rings(PAIRS, (((0, 1), (2, 3)), ((2, 3), (0, 1)))), True)
        self.assertIs(are_rings(PAIRS, (((0, 1, 4), (2, 3)), ((2, 3), (0, 1)))), False)
        self.assertIs(are_rings(thing=(((0,),), ((1,),)), walk=Walk(((1, 0), (0, 1)))), True)
        self.assertIs(are_rings(Walk(((1, 0), (0, 1))), (((False,),), ((True,),))), False)

    def told(self):
        """Walks of few places that don't forget, with their rings."""
        walks = [walk for walk in few_places() + [STAYS, PAIRS] if not first_common(walk)]
        return [(walk, forgets(walk)[1]) for walk in walks]

    def test_moved_on_turned_and_twice_round(self):
        for walk, (one, other) in self.told():
            self.assertIs(are_rings(walk, (other, one)), True)
            self.assertIs(are_rings(walk, (one * 2, other * 2)), True)
            for at in range(len(one)):
                self.assertIs(are_rings(walk, (one[at:] + one[:at], other[at:] + other[:at])), True)
                for thing in ((one[at:] + one[:at], other), (one, other[at:] + other[:at]), (one[::-1], other[::-1])):
                    self.assertIs(are_rings(walk, thing), are_told_rings(walk, thing))
            for thing in ((one, one), (one * 2, other), (one, other * 2), (one,), (one, other, one)):
                self.assertIs(are_rings(walk, thing), False)

    def test_with_one_thing_otherwise(self):
        for walk, rings in self.told():
            for thing in otherwise(rings) + otherwise((rings[0] * 2, rings[1] * 2)):
                self.assertIs(are_rings(walk, thing), are_told_rings(walk, thing), thing)

    def test_all_rings_of_three_places(self):
        sets = [places for size in range(1, 4) for places in itertools.combinations(range(3), size)]
        for walk in [walk for walk in few_places() if len(walk) == 3] + [STAYS]:
            for one in itertools.product(sets, repeat=2):
                for other in itertools.product(sets, repeat=2):
                    self.assertIs(are_rings(walk, (one, other)), are_told_rings(walk, (one, other)))
                    self.assertIs(are_rings(walk, (one[:1], other[:1])), are_told_rings(walk, (one[:1], other[:1])))

    def test_of_anything(self):
        for walk in (Walk(((1,),)), HALF, STAYS, ring(3), great_walks()[0]):
            for thing in anything():
                self.assertIs(are_rings(walk, thing), are_told_rings(walk, thing), thing)


class Forgetting(Refusals):
    def test_by_hand(self):
        self.assertEqual(forgets(Walk(((7,),))), ("yes", (0, 0, ((0,),))))
        self.assertEqual(forgets(HALF), ("yes", (1, 1, ((0, 1), (1, 1)))))
        self.assertEqual(forgets(Walk(((1, 1), (1, 1)))), ("yes", (1, 0, ((0, 0), (1, 0)))))
        walk = Walk(((0, 1, 0), (0, 0, 1), (0, 0, 1)))
        self.assertEqual(forgets(walk=walk), ("yes", (2, 2, ((0, 1, 2), (1, 2, 2), (2, 2, 2)))))
        self.assertEqual(forgets(slow_ring(3))[1][:2], first_common(slow_ring(3)))
        for walk in (STAYS, PAIRS, ring(2), ring(25), great_walks()[3]):
            self.assertEqual(forgets(walk)[0], "no")

    def test_of_one_to_six_places_and_of_25(self):
        answers = set()
        for walk in few_places() + great_walks() + [STAYS, PAIRS]:
            told = forgets(walk)
            self.assertIs(type(told), tuple)
            self.assertEqual(len(told), 2)
            common = first_common(walk)
            if common:
                self.assertEqual((told[0],) + told[1][:2], ("yes",) + common)
                self.assertIs(is_told_meeting(walk, told[1]), True)
                self.assertIs(is_meeting(walk, told[1]), True)
            else:
                self.assertEqual(told[0], "no")
                self.assertIs(are_told_rings(walk, told[1]), True)
                self.assertIs(are_rings(walk, told[1]), True)
            answers.add((told[0], len(walk)))
        self.assertTrue({(answer, many) for answer in ("yes", "no") for many in range(2, 7)} <= answers)


class Keeping(Refusals):
    def test_nothing_handed_in_is_changed(self):
        for thing in anything():
            ahead = copy.deepcopy(thing)
            for walk in (HALF, STAYS):
                first = (is_meeting(walk, thing), are_rings(walk, thing))
                self.assertEqual((is_meeting(walk, thing), are_rings(walk, thing)), first)
            self.assertEqual(repr(thing), repr(ahead))

    def test_the_same_asked_again(self):
        for walk in few_places():
            ahead = repr(walk)
            first, again = forgets(walk), forgets(walk)
            self.assertEqual(first[0], again[0])
            if first[0] == "yes":
                self.assertEqual(first[1][:2], again[1][:2])
            self.assertEqual(repr(walk), ahead)


if __name__ == "__main__":
    unittest.main()
