"""What is promised over the whole program: the interface, and that nothing handed in is changed."""

import copy
import importlib
import inspect
import itertools
import unittest

from fadewalk.desk import Desk
from fadewalk.keeper import Keeper
from fadewalk.walks import Walk

HALF = Walk(((1, 1), (0, 2)))
STEEP = Walk(((2, 4), (1, 5)))
THREE = Walk(((0, 6, 0), (3, 0, 3), (2, 2, 2)))
STAYS = Walk(((1, 0), (0, 1)))
RULE = (((0, 1), (0, 1)),)
VOUCHER = (RULE, 0, 1, (0,))

# For each function of the interface what it is handed in, and things to hand in, all by name.
FUNCTIONS = {
    "numbers.is_fraction": ("(thing)", [{"thing": (1, 2)}, {"thing": [1, [2]]}]),
    "numbers.plain": ("(fraction)", [{"fraction": (4, 6)}]),
    "numbers.added": ("(one, other)", [{"one": (1, 2), "other": (1, 3)}]),
    "numbers.multiplied": ("(one, other)", [{"one": (1, 2), "other": (2, 3)}]),
    "numbers.is_less": ("(one, other)", [{"one": (1, 2), "other": (2, 3)}]),
    "lots.is_lot": ("(thing)", [{"thing": (1, 2)}, {"thing": {1: [2]}}]),
    "lots.least": ("(lot)", [{"lot": (4, 6)}]),
    "lots.are_alike": ("(one, other)", [{"one": (1, 2), "other": (2, 4)}]),
    "making.plainest": ("(walk)", [{"walk": STEEP}]),
    "making.lazy": ("(walk, stay=1, go=1)", [{"walk": STEEP, "stay": 2, "go": 3}, {"walk": HALF}]),
    "making.folded": ("(walk, steps)", [{"walk": STEEP, "steps": 3}]),
    "making.beside": ("(one, other)", [{"one": STEEP, "other": THREE}]),
    "apart.apart": ("(one, other)", [{"one": (2, 1), "other": (1, 3)}]),
    "apart.is_joining": ("(one, other, thing)", [
        {"one": (1, 1), "other": (0, 2), "thing": RULE[0]}, {"one": (1,), "other": (2,), "thing": [[[1]]]},
    ]),
    "apart.is_paper": ("(one, other, thing)", [
        {"one": (1, 1), "other": (0, 2), "thing": ((0,), RULE[0])}, {"one": (1,), "other": (2,), "thing": {0: [[1]]}},
    ]),
    "apart.paper_of": ("(one, other)", [{"one": (2, 1), "other": (1, 3)}]),
    "apart.farthest": ("(walk, *, steps=1)", [{"walk": THREE, "steps": 3}, {"walk": THREE}]),
    "ways.led_to": ("(walk)", [{"walk": HALF}]),
    "ways.shut_sets": ("(walk)", [{"walk": HALF}, {"walk": STAYS}]),
    "ways.turn_of": ("(walk, shut)", [{"walk": HALF, "shut": (1,)}]),
    "ways.sides_of": ("(walk, shut)", [{"walk": THREE, "shut": (0, 1, 2)}]),
    "forgetting.is_meeting": ("(walk, thing)", [
        {"walk": HALF, "thing": (1, 1, ((0, 1), (1, 1)))}, {"walk": HALF, "thing": [[1], {}]},
    ]),
    "forgetting.are_rings": ("(walk, thing)", [
        {"walk": STAYS, "thing": (((0,),), ((1,),))}, {"walk": HALF, "thing": [[1], {}]},
    ]),
    "forgetting.forgets": ("(walk)", [{"walk": THREE}, {"walk": STAYS}]),
    "rests.is_rest": ("(walk, thing)", [{"walk": STEEP, "thing": (1, 4)}, {"walk": STEEP, "thing": [1, [4]]}]),
    "rests.rests": ("(walk)", [{"walk": STAYS}]),
    "rests.one_rest": ("(walk)", [{"walk": THREE}]),
    "rests.trees_toward": ("(walk, place)", [{"walk": THREE, "place": 1}]),
    "backward.looks_alike": ("(walk)", [{"walk": THREE}, {"walk": STEEP}]),
    "backward.is_slip": ("(walk, thing)", [{"walk": THREE, "thing": (0, 1, 2)}, {"walk": THREE, "thing": [0, [1], 2]}]),
    "backward.turned": ("(walk)", [{"walk": THREE}]),
    "within.is_voucher": ("(walk, bound, steps, thing)", [
        {"walk": HALF, "bound": (1, 2), "steps": 1, "thing": VOUCHER},
        {"walk": HALF, "bound": (1, 2), "steps": 1, "thing": [[VOUCHER]]},
    ]),
    "within.first_within": ("(walk, bound, *, most=60)", [
        {"walk": THREE, "bound": (1, 9), "most": 50}, {"walk": HALF, "bound": (1, 9)},
        {"walk": HALF, "bound": (1, 9), "most": 1}, {"walk": STAYS, "bound": (1, 9)},
    ]),
    "joined.is_rule": ("(walk, thing)", [{"walk": HALF, "thing": RULE}, {"walk": HALF, "thing": [[[]], {}]}]),
    "joined.best_rule": ("(walk)", [{"walk": THREE}]),
    "joined.unmet": ("(walk, rule, one, other, *, steps=1)", [
        {"walk": HALF, "rule": RULE, "one": 0, "other": 1, "steps": 3},
        {"walk": HALF, "rule": RULE, "one": 1, "other": 0},
    ]),
    "joined.meets": ("(walk, rule)", [{"walk": HALF, "rule": RULE}]),
    "stopping.separation": ("(walk, start, *, steps=1)", [
        {"walk": THREE, "start": 1, "steps": 2}, {"walk": STEEP, "start": 0},
    ]),
    "stopping.is_plan": ("(walk, start, thing)", [
        {"walk": STEEP, "start": 0, "thing": (1, ((0, 0), (1, 4)))},
        {"walk": STEEP, "start": 0, "thing": [1, [[0, 0]]]},
    ]),
    "stopping.is_fair": ("(walk, start, thing)", [
        {"walk": STEEP, "start": 0, "thing": (1, ((0, 0), (1, 4)))},
        {"walk": STEEP, "start": 0, "thing": [1, [[0, 0]]]},
    ]),
    "stopping.stopped": ("(walk, start, plan)", [{"walk": STEEP, "start": 0, "plan": (1, ((0, 0), (1, 4)))}]),
    "stopping.fair_plan": ("(walk, start, *, steps=1)", [
        {"walk": THREE, "start": 1, "steps": 3}, {"walk": STEEP, "start": 0},
    ]),
    "cuts.flow": ("(walk, places)", [{"walk": THREE, "places": (0, 2)}]),
    "cuts.slowest": ("(walk)", [{"walk": THREE}, {"walk": Walk(((1,),))}]),
    "cuts.cut_bound": ("(walk, places, *, steps=1)", [
        {"walk": THREE, "places": (0, 2), "steps": 0}, {"walk": STEEP, "places": (0,)},
    ]),
    "lumped.lumps": ("(walk, parts)", [
        {"walk": THREE, "parts": ((0, 1, 2),)}, {"walk": THREE, "parts": ((0, 1), (2,))},
    ]),
    "lumped.fewest_parts": ("(walk, parts)", [{"walk": THREE, "parts": ((0, 1), (2,))}]),
    "watched.watched": ("(walk, places)", [{"walk": THREE, "places": (0, 2)}]),
    "watched.missed": ("(walk, places, start, *, steps=1)", [
        {"walk": THREE, "places": (0,), "start": 1, "steps": 4}, {"walk": HALF, "places": (1,), "start": 0},
    ]),
    "texts.written": ("(walk)", [{"walk": THREE}]),
    "texts.read": ("(text)", [{"text": "1 1\n0 2\n"}]),
}
# For each method the same; the questions are asked of one object again and again.
METHODS = {
    "walks.Walk.after": ("(lot, *, steps=1)", [{"lot": (1, 2), "steps": 3}, {"lot": (1, 0)}]),
    "walks.Walk.power": ("(steps)", [{"steps": 3}]),
    "walks.Walk.chance": ("(start, place, *, steps=1)", [
        {"start": 1, "place": 0, "steps": 3}, {"start": 0, "place": 1},
    ]),
    "keeper.Keeper.walk": ("()", [{}]),
    "keeper.Keeper.after": ("(start, *, steps=1)", [{"start": 1, "steps": 3}, {"start": 0}]),
    "keeper.Keeper.farthest": ("(*, steps=1)", [{"steps": 3}, {}]),
    "keeper.Keeper.forgets": ("()", [{}]),
    "keeper.Keeper.supposing": ("(x, y, z, *, many=1, steps=1)", [
        {"x": 0, "y": 1, "z": 0, "many": 2, "steps": 3}, {"x": 1, "y": 0, "z": 1},
    ]),
    "keeper.Keeper.twin": ("()", [{}]),
    "keeper.Keeper.move": ("(x, y, z, *, many=1)", []),
    "keeper.Keeper.mark": ("()", []),
    "keeper.Keeper.back": ("()", []),
    "keeper.Keeper.undo": ("()", []),
    "keeper.Keeper.reckoned": ("()", []),
    "desk.Desk.say": ("(line)", [{"line": "rows"}, {"line": "farthest 2"}]),
}
CLASSES = {
    "walks.Walk": "(rows)", "keeper.Keeper": "(walk)", "desk.Desk": "()", "errors.NoText": "(line)",
    "errors.TooMany": "(many, most)",
}


def found(path):
    """What stands under a name of the interface."""
    module, *names = path.split(".")
    thing = importlib.import_module(f"fadewalk.{module}")
    for name in names:
        thing = getattr(thing, name)
    return thing


def an_object(path):
    """An object of the class that a method belongs to."""
    return {"Walk": STEEP, "Keeper": Keeper(STEEP), "Desk": Desk()}[path.split(".")[1]]


def deeds():
    """Each function and method with its words and what it is handed in."""
    for path, (words, calls) in FUNCTIONS.items():
        yield found(path), words, calls
    for path, (words, calls) in METHODS.items():
        yield getattr(an_object(path), path.split(".")[-1]), words, calls


def kinds_in(thing):
    """The kinds of all that a thing is made of."""
    parts = thing if isinstance(thing, (tuple, list, set)) else ()
    return {type(thing)} | {kind for part in parts for kind in kinds_in(part)}


class Interface(unittest.TestCase):
    def test_names_arguments_and_defaults(self):
        for deed, words, calls in deeds():
            self.assertEqual(str(inspect.signature(deed)), words, deed)
        for path, words in CLASSES.items():
            self.assertTrue(inspect.isclass(found(path)))
            self.assertEqual(str(inspect.signature(found(path))), words, path)

    def test_values_of_a_walk(self):
        self.assertEqual((THREE.rows, THREE.whole), (((0, 6, 0), (3, 0, 3), (2, 2, 2)), 6))


class Handing(unittest.TestCase):
    def test_by_name_in_any_order(self):
        for deed, words, calls in deeds():
            for named in calls:
                told = repr(deed(**named))
                for order in list(itertools.permutations(named))[:24]:
                    self.assertEqual(repr(deed(**{name: named[name] for name in order})), told, deed)

    def test_by_place(self):
        for deed, words, calls in deeds():
            parts = inspect.signature(deed).parameters
            ahead = [name for name, part in parts.items() if part.kind != part.KEYWORD_ONLY]
            for named in calls:
                placed = [named[name] for name in ahead if name in named]
                others = {name: thing for name, thing in named.items() if name not in ahead}
                self.assertEqual(repr(deed(*placed, **others)), repr(deed(**named)), deed)

    def test_behind_a_star_by_name_alone(self):
        for deed, words, calls in deeds():
            for named in calls:
                if "*" in words and "steps" in named:
                    with self.assertRaises(TypeError):
                        deed(*named.values())

    def test_left_out(self):
        for deed, words, calls in deeds():
            parts = inspect.signature(deed).parameters
            for named in calls:
                left = {name: part.default for name, part in parts.items() if name not in named}
                self.assertEqual(repr(deed(**named, **left)), repr(deed(**named)), deed)


class Keeping(unittest.TestCase):
    def test_nothing_handed_in_is_changed(self):
        for deed, words, calls in deeds():
            for named in calls:
                ahead = copy.deepcopy(named)
                deed(**named)
                self.assertEqual(repr(named), repr(ahead), deed)

    def test_the_same_asked_again(self):
        for deed, words, calls in deeds():
            for named in calls:
                self.assertEqual(repr(deed(**named)), repr(deed(**copy.deepcopy(named))), deed)

    def test_no_told_thing_can_be_changed(self):
        # Were a list told, it would have to be a new one; there is none.
        for deed, words, calls in deeds():
            for named in calls:
                told = kinds_in(deed(**named))
                self.assertLessEqual(told, {tuple, int, bool, str, type(None), Walk, Keeper}, deed)

    def test_questions_of_a_keeper_change_nothing_else(self):
        for path, (words, calls) in METHODS.items():
            if path.startswith("keeper"):
                keeper = Keeper(STEEP)
                keeper.mark()
                for named in calls:
                    getattr(keeper, path.split(".")[-1])(**named)
                self.assertEqual((repr(keeper), keeper.walk()), ("Keeper(2 places, 1 deeds)", STEEP))
                self.assertIsNone(keeper.back())

    def test_what_was_told_may_be_handed_in_again(self):
        for path in (
            "joined.is_rule joined.best_rule", "rests.is_rest rests.one_rest", "backward.is_slip backward.looks_alike",
            "forgetting.is_meeting forgetting.forgets",
        ):
            judge, teller = (found(name) for name in path.split(" "))
            told = teller(THREE)
            shown = told[1] if type(told[0]) is str else told
            self.assertIs(judge(THREE, shown), True, path)


if __name__ == "__main__":
    unittest.main()
