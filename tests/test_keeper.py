import copy
import itertools
import random
import unittest

from fadewalk.apart import farthest
from fadewalk.errors import FadeError, NoDeed, NoMark, NoMove, NoNumber, NoPlace, NoSteps, NoWalk
from fadewalk.forgetting import forgets
from fadewalk.keeper import Keeper
from fadewalk.texts import written
from fadewalk.walks import Walk
from samples import (
    GREAT, Refusals, deep_list, few_places, great_walks, no_numbers, no_places, no_steps, no_tuples,
)

ONE = Walk(((3,),))
HALF = Walk(((1, 1), (0, 2)))
THREE = Walk(((2, 1, 1), (0, 4, 0), (1, 0, 3)))


def walk_moved(walk, x, y, z, many):
    """The walk behind a move, by the words of the document."""
    rows = [list(row) for row in walk.rows]
    rows[x][y] -= many
    rows[x][z] += many
    return Walk(tuple(tuple(row) for row in rows))


def replayed(walk, deeds):
    """The walk and the marks behind some deeds, each done anew from the first on."""
    marks = []
    for deed in deeds:
        if deed == "mark":
            marks.append(walk)
        elif deed == "back":
            walk = marks.pop()
        else:
            walk = walk_moved(walk, *deed)
    return walk, marks


class Model:
    """What a keeper should tell, from a list of all deeds that are not undone."""

    def __init__(self, walk):
        self.first = walk
        self.deeds = []
        self.kept = 0
        self.made = 0

    def state(self):
        return replayed(self.first, self.deeds)

    def refusal(self, deed):
        """The refusal that is due for a deed, or None."""
        walk, marks = self.state()
        if deed == "back":
            return None if marks else NoMark
        if deed == "undo":
            return None if self.deeds else NoDeed
        if deed == "mark":
            return None
        x, y, z, many = deed
        if not all(place in range(len(walk)) for place in (x, y, z)):
            return NoPlace
        if many < 1:
            return NoNumber
        return NoMove if walk.rows[x][y] < many or y == z else None

    def do(self, deed):
        if deed == "undo":
            self.deeds.pop()
        else:
            self.deeds.append(deed)
        self.kept = 0

    def make(self, steps):
        self.made += max(0, steps - self.kept)
        self.kept = max(self.kept, steps)


def do(keeper, deed):
    """Do a deed with a keeper."""
    if deed in ("mark", "back", "undo"):
        return getattr(keeper, deed)()
    x, y, z, many = deed
    return keeper.move(x, y, z, many=many)


def some_deed(chooser, many):
    """A deed of any kind, now and then one that is refused."""
    if chooser.random() < 0.5:
        return chooser.choice(("mark", "back", "undo", "undo"))
    low = -1 if chooser.random() < 0.1 else 0
    places = [chooser.randint(low, many - 1 - low) for place in range(3)]
    return (*places, chooser.choice((0, 1, 1, 1, 2, 5)))


def all_of(keeper):
    """All that a keeper tells without making a power."""
    return (repr(keeper), str(keeper), len(keeper), keeper.walk(), keeper.forgets(), keeper.reckoned())


class Deeds(Refusals):
    def test_moves_by_hand(self):
        keeper = Keeper(HALF)
        self.assertIsNone(keeper.move(0, 0, 1))
        self.assertEqual(keeper.walk(), Walk(((0, 2), (0, 2))))
        self.assertIsNone(keeper.move(1, 1, 0, many=2))
        self.assertEqual(keeper.walk().rows, ((0, 2), (2, 0)))
        keeper.move(many=1, z=0, y=1, x=0)
        self.assertEqual(keeper.walk().rows, ((1, 1), (2, 0)))
        self.assertIs(type(keeper.walk()), Walk)
        self.assertEqual(keeper.walk().whole, 2)

    def test_many_left_out(self):
        keeper = Keeper(THREE)
        keeper.move(1, 1, 2)
        self.assertEqual(keeper.walk().rows, ((2, 1, 1), (0, 3, 1), (1, 0, 3)))

    def test_great_numbers(self):
        keeper = Keeper(Walk(((GREAT, 0), (0, GREAT))))
        keeper.move(0, 0, 1, many=GREAT)
        self.assertEqual(keeper.walk().rows, ((0, GREAT), (0, GREAT)))
        self.assert_refused(NoMove, keeper.move, 0, 0, 1, many=GREAT)

    def test_marks_one_within_another(self):
        keeper = Keeper(THREE)
        self.assertIsNone(keeper.mark())
        keeper.move(0, 0, 1)
        one = keeper.walk()
        keeper.mark()
        keeper.mark()
        keeper.move(0, 0, 2)
        two = keeper.walk()
        keeper.mark()
        keeper.move(1, 1, 0, many=4)
        self.assertIsNone(keeper.back())
        self.assertEqual(keeper.walk(), two)
        keeper.back()
        self.assertEqual(keeper.walk(), one)
        keeper.move(2, 0, 1)
        keeper.back()
        self.assertEqual(keeper.walk(), one)
        keeper.back()
        self.assertEqual(keeper.walk(), THREE)
        self.assert_refused(NoMark, keeper.back)
        self.assertEqual(repr(keeper), "Keeper(3 places, 12 deeds)")

    def test_undo_of_each_kind(self):
        keeper = Keeper(HALF)
        keeper.move(0, 0, 1)
        moved = keeper.walk()
        self.assertIsNone(keeper.undo())
        self.assertEqual(keeper.walk(), HALF)
        self.assert_refused(NoDeed, keeper.undo)
        keeper.mark()
        keeper.undo()
        self.assert_refused(NoMark, keeper.back)
        self.assert_refused(NoDeed, keeper.undo)
        keeper.mark()
        keeper.move(0, 0, 1)
        keeper.back()
        self.assertEqual(keeper.walk(), HALF)
        self.assert_refused(NoMark, keeper.back)
        # The mark is there again, and the walk as it was.
        keeper.undo()
        self.assertEqual(keeper.walk(), moved)
        keeper.back()
        self.assertEqual(keeper.walk(), HALF)
        for time in range(3):
            keeper.undo()
        self.assertEqual(keeper.walk(), HALF)
        self.assert_refused(NoDeed, keeper.undo)
        self.assert_refused(NoMark, keeper.back)

    def test_a_mark_undone_and_back_to_the_one_ahead(self):
        keeper = Keeper(HALF)
        keeper.mark()
        keeper.move(0, 0, 1)
        keeper.mark()
        keeper.undo()
        keeper.move(1, 1, 0)
        keeper.back()
        self.assertEqual(keeper.walk(), HALF)
        self.assertEqual(repr(keeper), "Keeper(2 places, 4 deeds)")

    def test_deeds_one_behind_another(self):
        refused = set()
        for seed, walk in enumerate([walk for walk in few_places() if len(walk) <= 4]):
            chooser = random.Random(seed)
            keeper, model = Keeper(walk), Model(walk)
            for time in range(60):
                deed = some_deed(chooser, len(walk))
                due = model.refusal(deed)
                ahead = all_of(keeper)
                if due:
                    self.assert_refused(due, do, keeper, deed)
                    self.assertEqual(all_of(keeper), ahead)
                    refused.add(due)
                else:
                    self.assertIsNone(do(keeper, deed))
                    model.do(deed)
                self.assertEqual(keeper.walk(), model.state()[0])
                self.assertEqual(repr(keeper), f"Keeper({len(walk)} places, {len(model.deeds)} deeds)")
                self.assertEqual(keeper.reckoned(), 0)
            while model.deeds:
                keeper.undo()
                model.do("undo")
                self.assertEqual(keeper.walk(), model.state()[0])
            self.assertEqual(keeper.walk(), walk)
            self.assert_refused(NoDeed, keeper.undo)
        self.assertEqual(refused, {NoPlace, NoNumber, NoMove, NoMark, NoDeed})


class Questions(Refusals):
    def test_by_hand(self):
        keeper = Keeper(HALF)
        self.assertEqual(keeper.after(0), (1, 1))
        self.assertEqual(keeper.after(0, steps=0), (1, 0))
        self.assertEqual(keeper.after(steps=3, start=0), (1, 7))
        self.assertEqual(keeper.after(1, steps=2), (0, 4))
        self.assertEqual(keeper.farthest(), ((1, 2), 0, 1))
        self.assertEqual(keeper.farthest(steps=0), ((1, 1), 0, 1))
        self.assertEqual(keeper.farthest(steps=5), ((1, 32), 0, 1))
        self.assertEqual(keeper.forgets(), ("yes", (1, 1, ((0, 1), (1, 1)))))
        self.assertEqual(keeper.supposing(1, 1, 0, many=2), (((1, 2), 0, 1), ("yes", (1, 0, ((0, 0), (1, 0))))))
        self.assertEqual(keeper.supposing(0, 0, 1, steps=2)[0], ((0, 1), 0, 0))

    def test_as_of_the_walk_alone(self):
        for walk in few_places() + great_walks()[:3]:
            keeper = Keeper(walk)
            for steps in (3, 0, 1, 5, 2, 5):
                for start in range(0, len(walk), 7 if len(walk) > 6 else 1):
                    told = keeper.after(start, steps=steps)
                    self.assertEqual(told, walk.power(steps)[start])
                    self.assertIs(type(told), tuple)
                self.assertEqual(keeper.farthest(steps=steps), farthest(walk, steps=steps))
            self.assertEqual(keeper.after(0), keeper.after(0, steps=1))
            self.assertEqual(keeper.farthest(), farthest(walk))
            self.assertEqual(keeper.forgets(), forgets(walk))
            self.assertEqual(keeper.walk(), walk)

    def test_many_steps(self):
        keeper = Keeper(THREE)
        self.assertEqual(keeper.farthest(steps=100), farthest(THREE, steps=100))
        self.assertEqual(keeper.after(2, steps=100), THREE.power(100)[2])
        self.assertEqual(keeper.reckoned(), 100)

    def test_behind_deeds(self):
        chooser = random.Random(3)
        for walk in [walk for walk in few_places() if 2 <= len(walk) <= 4]:
            keeper, model = Keeper(walk), Model(walk)
            for time in range(25):
                deed = some_deed(chooser, len(walk))
                if not model.refusal(deed):
                    do(keeper, deed)
                    model.do(deed)
                now = model.state()[0]
                steps = chooser.randint(0, 4)
                self.assertEqual(keeper.after(1, steps=steps), now.power(steps)[1])
                self.assertEqual(keeper.farthest(steps=steps), farthest(now, steps=steps))
                self.assertEqual(keeper.forgets(), forgets(now))

    def test_supposing(self):
        seen = set()
        for walk in [walk for walk in few_places() if len(walk) <= 3]:
            keeper, model = Keeper(walk), Model(walk)
            keeper.mark()
            model.do("mark")
            keeper.farthest(steps=2)
            many = len(walk)
            for move in itertools.product(range(-1, many + 1), range(many), range(many), (0, 1, 3)):
                ahead = all_of(keeper)
                due = model.refusal(move)
                x, y, z, weight = move
                if due:
                    self.assert_refused(due, keeper.supposing, x, y, z, many=weight, steps=2)
                else:
                    then = walk_moved(walk, *move)
                    for steps in (0, 1, 3):
                        told = keeper.supposing(x, y, z, many=weight, steps=steps)
                        self.assertEqual(told, (farthest(then, steps=steps), forgets(then)))
                        self.assertIs(type(told), tuple)
                    if weight == 1:
                        self.assertEqual(keeper.supposing(x, y, z), (farthest(then), forgets(then)))
                self.assertEqual(all_of(keeper), ahead)
                seen.add(due)
            # The two powers are kept still.
            keeper.farthest(steps=2)
            self.assertEqual(keeper.reckoned(), 2)
            keeper.back()
            self.assertEqual(keeper.walk(), walk)
        self.assertEqual(seen, {None, NoPlace, NoNumber, NoMove})


class Reckoned(Refusals):
    def test_by_hand(self):
        keeper = Keeper(HALF)
        self.assertEqual(keeper.reckoned(), 0)
        keeper.after(0, steps=0)
        keeper.farthest(steps=0)
        keeper.forgets()
        keeper.supposing(0, 0, 1, steps=50)
        keeper.walk()
        self.assertEqual(keeper.reckoned(), 0)
        keeper.after(0, steps=3)
        self.assertEqual(keeper.reckoned(), 3)
        keeper.after(1, steps=2)
        keeper.farthest()
        keeper.farthest(steps=3)
        self.assertEqual(keeper.reckoned(), 3)
        keeper.farthest(steps=5)
        self.assertEqual(keeper.reckoned(), 5)
        keeper.mark()
        self.assertEqual(keeper.reckoned(), 5)
        keeper.after(0)
        self.assertEqual(keeper.reckoned(), 6)
        keeper.move(0, 0, 1)
        keeper.farthest()
        self.assertEqual(keeper.reckoned(), 7)
        keeper.undo()
        keeper.after(0, steps=2)
        self.assertEqual(keeper.reckoned(), 9)
        keeper.back()
        keeper.farthest(steps=2)
        self.assertEqual(keeper.reckoned(), 11)
        keeper.undo()
        keeper.undo()
        self.assertEqual(keeper.reckoned(), 11)
        keeper.farthest(steps=1)
        self.assertEqual(keeper.reckoned(), 12)

    def test_what_is_refused_makes_none_and_keeps_all(self):
        keeper = Keeper(HALF)
        keeper.farthest(steps=2)
        for deed, things, named in (
            (keeper.after, (2,), {"steps": 9}), (keeper.after, (0,), {"steps": 101}),
            (keeper.farthest, (), {"steps": -1}), (keeper.move, (0, 0, 0), {}), (keeper.move, (0, 0, 1), {"many": 9}),
            (keeper.move, (5, 0, 1), {}),
            (keeper.back, (), {}), (keeper.undo, (), {}), (keeper.supposing, (0, 0, 0), {"steps": 9}),
        ):
            with self.assertRaises(FadeError):
                deed(*things, **named)
            keeper.farthest(steps=2)
            keeper.after(0, steps=2)
            self.assertEqual(keeper.reckoned(), 2)

    def test_through_questions_and_deeds(self):
        for seed, walk in enumerate([walk for walk in few_places() if len(walk) <= 3]):
            chooser = random.Random(seed)
            keeper, model = Keeper(walk), Model(walk)
            for time in range(80):
                kind = chooser.randrange(5)
                steps = chooser.randint(0, 6)
                if kind == 0:
                    deed = some_deed(chooser, len(walk))
                    if model.refusal(deed):
                        self.assert_refused(model.refusal(deed), do, keeper, deed)
                    else:
                        do(keeper, deed)
                        model.do(deed)
                elif kind == 1:
                    keeper.after(chooser.randrange(len(walk)), steps=steps)
                    model.make(steps)
                elif kind == 2:
                    keeper.farthest(steps=steps)
                    model.make(steps)
                elif kind == 3:
                    keeper.forgets()
                else:
                    try:
                        keeper.supposing(0, 0, len(walk) - 1, steps=steps)
                    except NoMove:
                        pass
                self.assertEqual(keeper.reckoned(), model.made)


class Sameness(Refusals):
    def test_len_repr_and_str(self):
        self.assertEqual(repr(Keeper(THREE)), "Keeper(3 places, 0 deeds)")
        self.assertEqual(repr(Keeper(ONE)), "Keeper(1 places, 0 deeds)")
        self.assertEqual(str(Keeper(HALF)), "1 1\n0 2\n")
        for walk in few_places() + great_walks():
            keeper = Keeper(walk)
            self.assertEqual(len(keeper), len(walk))
            self.assertEqual(str(keeper), written(walk))
            self.assertEqual(repr(keeper), f"Keeper({len(walk)} places, 0 deeds)")
        keeper = Keeper(THREE)
        keeper.mark()
        self.assertEqual(repr(keeper), "Keeper(3 places, 1 deeds)")
        keeper.move(0, 0, 1)
        self.assertEqual(repr(keeper), "Keeper(3 places, 2 deeds)")
        self.assertEqual(str(keeper), "1 2 1\n0 4 0\n1 0 3\n")
        keeper.back()
        self.assertEqual(repr(keeper), "Keeper(3 places, 3 deeds)")
        keeper.undo()
        self.assertEqual(repr(keeper), "Keeper(3 places, 2 deeds)")

    def test_equal_and_unequal(self):
        keeper = Keeper(HALF)
        self.assertIs(keeper == Keeper(Walk(((1, 1), (0, 2)))), True)
        self.assertIs(keeper != Keeper(HALF), False)
        self.assertIs(keeper == Keeper(Walk(((2, 2), (0, 4)))), False)
        self.assertIs(keeper != Keeper(ONE), True)
        for thing in [HALF, HALF.rows, str(keeper), repr(keeper)] + no_tuples() + no_numbers() + [deep_list(12)]:
            self.assertIs(keeper == thing, False)
            self.assertIs(keeper != thing, True)
            self.assertIs(thing == keeper, False)
        # Marks, deeds and powers make no difference, the walk alone does.
        other = Keeper(HALF)
        other.mark()
        other.farthest(steps=3)
        self.assertIs(keeper == other, True)
        other.move(0, 0, 1)
        self.assertIs(keeper == other, False)
        other.back()
        self.assertIs(keeper == other, True)

    def test_of_all_walks(self):
        walks = few_places()
        for one, other in itertools.product(walks[:20], repeat=2):
            self.assertIs(Keeper(one) == Keeper(other), one.rows == other.rows)
            self.assertIs(Keeper(one) != Keeper(other), one.rows != other.rows)


class Twins(Refusals):
    def test_by_hand(self):
        keeper = Keeper(HALF)
        keeper.mark()
        keeper.move(0, 0, 1)
        keeper.farthest(steps=4)
        twin = keeper.twin()
        self.assertIs(type(twin), Keeper)
        self.assertIsNot(twin, keeper)
        self.assertIs(twin == keeper, True)
        self.assertEqual((repr(twin), str(twin)), (repr(keeper), str(keeper)))
        self.assertEqual((twin.reckoned(), keeper.reckoned()), (0, 4))
        twin.farthest(steps=2)
        self.assertEqual((twin.reckoned(), keeper.reckoned()), (2, 4))
        keeper.farthest(steps=5)
        self.assertEqual((twin.reckoned(), keeper.reckoned()), (2, 5))
        twin.back()
        self.assertEqual(twin.walk(), HALF)
        self.assertEqual(keeper.walk(), Walk(((0, 2), (0, 2))))
        self.assertIs(twin == keeper, False)
        keeper.undo()
        keeper.undo()
        self.assert_refused(NoDeed, keeper.undo)
        self.assert_refused(NoMark, keeper.back)
        for time in range(3):
            twin.undo()
        self.assert_refused(NoDeed, twin.undo)
        self.assertIs(twin == keeper, True)

    def test_neither_hangs_on_the_other(self):
        for seed, walk in enumerate([walk for walk in few_places() if 2 <= len(walk) <= 4]):
            chooser = random.Random(seed)
            pairs = [(Keeper(walk), Model(walk))]
            for time in range(60):
                keeper, model = chooser.choice(pairs)
                if len(pairs) < 4 and time % 9 == 8:
                    other = Model(walk)
                    other.deeds = list(model.deeds)
                    pairs.append((keeper.twin(), other))
                    self.assertEqual(pairs[-1][0].reckoned(), 0)
                deed = some_deed(chooser, len(walk))
                due = model.refusal(deed)
                if due:
                    self.assert_refused(due, do, keeper, deed)
                else:
                    do(keeper, deed)
                    model.do(deed)
                steps = chooser.randint(0, 3)
                keeper.farthest(steps=steps)
                model.make(steps)
                for one, held in pairs:
                    self.assertEqual(one.walk(), held.state()[0])
                    self.assertEqual(one.reckoned(), held.made)
                    self.assertEqual(repr(one), f"Keeper({len(walk)} places, {len(held.deeds)} deeds)")


class Refusing(Refusals):
    def test_walks(self):
        for thing in no_tuples() + no_numbers() + [HALF.rows, ((1,),), Keeper(HALF), "1\n", [HALF], (HALF,), {0: HALF}]:
            self.assert_refused(NoWalk, Keeper, thing)
        self.assertEqual(Keeper(walk=HALF).walk(), HALF)

    def test_places(self):
        keeper = Keeper(HALF)
        for thing in no_places(2):
            for places in ((thing, 0, 1), (0, thing, 1), (0, 0, thing), (thing, thing, thing), (0, 1, thing)):
                for many in (1, 0, 9, None):
                    self.assert_refused(NoPlace, keeper.move, *places, many=many)
                    for steps in (1, 101, None):
                        self.assert_refused(NoPlace, keeper.supposing, *places, many=many, steps=steps)
            for steps in (0, 1, 101, None):
                self.assert_refused(NoPlace, keeper.after, thing, steps=steps)
        self.assertEqual(all_of(keeper), all_of(Keeper(HALF)))

    def test_numbers(self):
        keeper = Keeper(HALF)
        for thing in no_numbers() + [0, -1, -GREAT]:
            for places in ((0, 0, 1), (0, 0, 0), (1, 0, 1)):
                self.assert_refused(NoNumber, keeper.move, *places, many=thing)
                for steps in (1, 101, None):
                    self.assert_refused(NoNumber, keeper.supposing, *places, many=thing, steps=steps)
        self.assertEqual(all_of(keeper), all_of(Keeper(HALF)))

    def test_steps(self):
        keeper = Keeper(HALF)
        for steps in no_steps():
            self.assert_refused(NoSteps, keeper.after, 0, steps=steps)
            self.assert_refused(NoSteps, keeper.farthest, steps=steps)
            for places in ((0, 0, 1), (0, 0, 0), (1, 0, 1)):
                self.assert_refused(NoSteps, keeper.supposing, *places, many=2, steps=steps)
        self.assertEqual(all_of(keeper), all_of(Keeper(HALF)))
        for steps in (0, 100):
            self.assertEqual(keeper.after(1, steps=steps), HALF.power(steps)[1])
            self.assertEqual(keeper.supposing(0, 0, 1, steps=steps)[1][0], "yes")

    def test_moves(self):
        keeper = Keeper(HALF)
        for places, many in (((0, 0, 0), 1), ((0, 0, 1), 2), ((1, 0, 1), 1), ((1, 1, 0), 3), ((0, 1, 1), GREAT)):
            self.assert_refused(NoMove, keeper.move, *places, many=many)
            self.assert_refused(NoMove, keeper.supposing, *places, many=many)
            self.assert_refused(NoMove, keeper.supposing, *places, many=many, steps=0)
        self.assertEqual(all_of(keeper), all_of(Keeper(HALF)))
        keeper.move(1, 1, 0, many=2)
        self.assertEqual(keeper.walk().rows, ((1, 1), (2, 0)))

    def test_back_and_undo(self):
        keeper = Keeper(HALF)
        self.assert_refused(NoMark, keeper.back)
        self.assert_refused(NoDeed, keeper.undo)
        keeper.move(0, 0, 1)
        self.assert_refused(NoMark, keeper.back)
        keeper.undo()
        self.assert_refused(NoDeed, keeper.undo)
        self.assertEqual(all_of(keeper), all_of(Keeper(HALF)))

    def test_handed_in_by_name_alone(self):
        keeper = Keeper(HALF)
        for deed, things in (
            (keeper.move, (0, 0, 1, 1)), (keeper.after, (0, 1)), (keeper.farthest, (1,)),
            (keeper.supposing, (0, 0, 1, 1)),
        ):
            with self.assertRaises(TypeError):
                deed(*things)


class Keeping(Refusals):
    def test_nothing_handed_in_is_changed(self):
        for walk in few_places():
            ahead = repr(walk)
            keeper = Keeper(walk)
            keeper.mark()
            for x, y, z in itertools.permutations(range(len(walk)), 3):
                if keeper.walk().rows[x][y] >= 1:
                    keeper.supposing(x, y, z)
                    keeper.move(x, y, z)
            keeper.farthest(steps=2)
            self.assertEqual((repr(walk), walk.whole), (ahead, sum(walk.rows[0])))
            keeper.back()
            self.assertEqual(keeper.walk(), walk)
        for thing in no_tuples() + no_numbers():
            ahead = copy.deepcopy(thing)
            keeper = Keeper(HALF)
            self.assert_refused(NoWalk, Keeper, thing)
            if not (type(thing) is int and 0 <= thing < 2):
                self.assert_refused(NoPlace, keeper.move, thing, thing, thing, many=thing)
            self.assertEqual(repr(thing), repr(ahead))

    def test_a_told_walk_stays_as_it_was(self):
        keeper = Keeper(HALF)
        told = keeper.walk()
        lot = keeper.after(0, steps=2)
        keeper.move(0, 0, 1)
        self.assertEqual(told, HALF)
        self.assertEqual(lot, (1, 3))

    def test_the_same_asked_again(self):
        for walk in few_places():
            keeper = Keeper(walk)
            first = (keeper.after(0, steps=3), keeper.farthest(steps=3), keeper.forgets(), keeper.reckoned())
            again = (keeper.after(0, steps=3), keeper.farthest(steps=3), keeper.forgets(), keeper.reckoned())
            self.assertEqual(first, again)

    def test_two_keepers_of_one_walk(self):
        one, other = Keeper(HALF), Keeper(HALF)
        one.mark()
        one.move(0, 0, 1)
        one.farthest(steps=3)
        self.assertEqual(all_of(other), all_of(Keeper(HALF)))


if __name__ == "__main__":
    unittest.main()
