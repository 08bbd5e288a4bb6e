import copy
import random
import re
import unittest

from fadewalk.apart import apart, farthest
from fadewalk.cuts import slowest
from fadewalk.desk import Desk
from fadewalk.errors import (
    BadWalk, FadeError, NoBound, NoDeed, NoLine, NoMark, NoMove, NoNumber, NoPlace, NoRest, NoSteps, TooMany,
)
from fadewalk.forgetting import forgets
from fadewalk.keeper import Keeper
from fadewalk.rests import one_rest
from fadewalk.stopping import separation
from fadewalk.walks import Walk
from fadewalk.within import first_within
from samples import Refusals, deep_list, few_places, great_walks, no_numbers, no_tuples, ring

NUMBER = "(?:0|[1-9][0-9]{0,11})"
WORDS = {
    "move": 4, "mark": 0, "back": 0, "undo": 0, "apart": 3, "farthest": 1, "forgets": 0, "rest": 0, "within": 2,
    "chance": 3, "separation": 2, "slowest": 0, "rows": 0,
}
HALF = "walk 1 1 / 0 2"
STEEP = "walk 2 4 / 1 5"
STAYS = "walk 1 0 / 0 1"


def has_form(line):
    """Whether a line is of one of the forms, by the words of the document."""
    if type(line) is not str:
        return False
    forms = [f"walk(?: (?:{NUMBER}|/))+"] + [word + f" {NUMBER}" * many for word, many in WORDS.items()]
    return any(re.fullmatch(form, line) for form in forms)


def line_of_walk(walk):
    return "walk " + " / ".join(" ".join(str(weight) for weight in row) for row in walk.rows)


def shown(fraction):
    return f"{fraction[0]}/{fraction[1]}"


def walk_said(line):
    """The walk of a line of the form of walk."""
    rows = re.split("/", line[len("walk"):])
    return Walk(tuple(tuple(int(word) for word in row.split()) for row in rows))


def question(keeper, word, numbers):
    """The answer to a question, by the functions alone."""
    walk = keeper.walk()
    if word == "apart":
        one, other, steps = numbers
        for place in (one, other):
            walk.chance(place, 0)
        return shown(apart(walk.power(steps)[one], walk.power(steps)[other]))
    if word == "farthest":
        gap, one, other = farthest(walk, steps=numbers[0])
        return f"{shown(gap)} {one} {other}"
    if word == "forgets":
        told = forgets(walk)
        return " ".join(["yes"] + [str(part) for part in told[1][:2]]) if told[0] == "yes" else "no"
    if word == "rest":
        try:
            return " ".join(str(weight) for weight in one_rest(walk))
        except NoRest:
            return "none"
    if word == "within":
        told = first_within(walk, tuple(numbers))
        return {"at": str(told[1]), "later": "later", "never": "never"}[told[0]]
    if word == "chance":
        return shown(walk.chance(numbers[0], numbers[1], steps=numbers[2]))
    if word == "separation":
        return shown(separation(walk, numbers[0], steps=numbers[1]))
    if word == "slowest":
        told = slowest(walk)
        return " ".join([shown(told[0])] + [str(place) for place in told[1]]) if told else "none"
    return line_of_walk(walk)[len("walk "):]


class Model:
    """A desk made of the functions, and of a keeper."""

    def __init__(self):
        self.keeper = Keeper(Walk(((1,),)))

    def say(self, line):
        if not has_form(line):
            raise NoLine("no such form")
        word, *others = line.split(" ")
        if word == "walk":
            self.keeper = Keeper(walk_said(line))
            return "ok"
        numbers = [int(other) for other in others]
        if word == "move":
            x, y, z, many = numbers
            self.keeper.move(x, y, z, many=many)
            return "ok"
        if word in ("mark", "back", "undo"):
            getattr(self.keeper, word)()
            return "ok"
        return question(self.keeper, word, numbers)


def some_line(chooser, many):
    """A line of a form, mostly with places and steps that are there."""
    word = chooser.choice(list(WORDS) + ["move", "move", "undo", "mark"])
    numbers = [chooser.choice((0, 0, 1, 1, 2, 3, chooser.randrange(many + 1))) for at in range(WORDS[word])]
    if chooser.random() < 0.05 and numbers:
        numbers[-1] = chooser.choice((100, 101, 7, 999999999999))
    if word == "within" and chooser.random() < 0.8:
        numbers = [chooser.randint(0, 3), chooser.randint(4, 9)]
    return " ".join([word] + [str(number) for number in numbers])


def bent(chooser, line):
    """The line with one sign otherwise, put in or left out."""
    at = chooser.randrange(len(line) + 1)
    sign = chooser.choice(" 0123/-+.xwm\n\t")
    return chooser.choice((line[:at] + sign + line[at:], line[:at] + line[at + 1:], line[:at] + sign + line[at + 1:]))


class Deeds(Refusals):
    def test_at_first(self):
        desk = Desk()
        self.assertEqual(desk.say("rows"), "1")
        self.assertEqual(desk.say("rest"), "1")
        self.assertEqual(desk.say("slowest"), "none")
        self.assertEqual(desk.say("forgets"), "yes 0 0")
        self.assertEqual(desk.say("farthest 3"), "0/1 0 0")
        self.assert_refused(NoMark, desk.say, "back")
        self.assert_refused(NoDeed, desk.say, "undo")

    def test_walks(self):
        desk = Desk()
        self.assertEqual(desk.say(HALF), "ok")
        self.assertEqual(desk.say("rows"), "1 1 / 0 2")
        self.assertEqual(desk.say(line="walk 7"), "ok")
        self.assertEqual(desk.say("rows"), "7")
        self.assertEqual(desk.say("walk 999999999999 0 / 0 999999999999"), "ok")
        self.assertEqual(desk.say("rows"), "999999999999 0 / 0 999999999999")
        for walk in few_places() + great_walks():
            self.assertEqual(desk.say(line_of_walk(walk)), "ok")
            self.assertEqual("walk " + desk.say("rows"), line_of_walk(walk))

    def test_a_walk_is_a_keeper_anew(self):
        desk = Desk()
        desk.say(HALF)
        desk.say("mark")
        desk.say("move 0 0 1 1")
        self.assertEqual(desk.say(HALF), "ok")
        self.assert_refused(NoMark, desk.say, "back")
        self.assert_refused(NoDeed, desk.say, "undo")
        self.assertEqual(desk.say("rows"), "1 1 / 0 2")

    def test_moves_marks_back_and_undo(self):
        desk = Desk()
        desk.say(HALF)
        for line, rows in (
            ("mark", "1 1 / 0 2"), ("move 0 0 1 1", "0 2 / 0 2"), ("mark", "0 2 / 0 2"), ("move 1 1 0 2", "0 2 / 2 0"),
            ("back", "0 2 / 0 2"), ("undo", "0 2 / 2 0"), ("back", "0 2 / 0 2"), ("back", "1 1 / 0 2"),
            ("undo", "0 2 / 0 2"), ("undo", "0 2 / 2 0"), ("undo", "0 2 / 0 2"), ("undo", "0 2 / 0 2"),
            ("undo", "1 1 / 0 2"), ("undo", "1 1 / 0 2"),
        ):
            self.assertEqual(desk.say(line), "ok")
            self.assertEqual(desk.say("rows"), rows, line)
        self.assert_refused(NoDeed, desk.say, "undo")
        self.assert_refused(NoMark, desk.say, "back")


class Questions(Refusals):
    def assert_said(self, walk, **answers):
        desk = Desk()
        self.assertEqual(desk.say(walk), "ok")
        for line, answer in answers.items():
            self.assertEqual(desk.say(line.replace("_", " ")), answer, line)

    def test_by_hand(self):
        self.assert_said(
            HALF, apart_0_1_3="1/8", apart_1_0_0="1/1", apart_1_1_5="0/1", farthest_2="1/4 0 1", farthest_0="1/1 0 1",
            forgets="yes 1 1", rest="none", within_1_2="1", within_1_9="4", within_0_1="later", chance_0_1_2="3/4",
            chance_1_0_7="0/1", chance_0_0_0="1/1", rows="1 1 / 0 2",
        )
        self.assert_said(
            STEEP, rest="1 4", separation_0_2="1/36", separation_1_0="1/1", slowest="2/3 0", forgets="yes 1 0",
            within_1_6="1", within_1_7="2", farthest_1="1/6 0 1", rows="2 4 / 1 5",
        )
        self.assert_said(
            STAYS, forgets="no", rest="none", within_0_1="never", within_9_10="never", farthest_9="1/1 0 1",
            apart_0_1_100="1/1", rows="1 0 / 0 1",
        )
        self.assert_said(
            "walk 5 4 0 1 / 4 6 0 0 / 0 0 6 4 / 1 0 4 5", slowest="1/20 0 1", rest="1 1 1 1", separation_0_0="1/1",
        )
        self.assert_said("walk 1 1 / 1 1", within_0_1="1", separation_0_1="0/1", apart_0_1_1="0/1", slowest="1/2 0")
        self.assert_said("walk 4", within_0_1="0", slowest="none", separation_0_5="0/1", rest="1", forgets="yes 0 0")

    def test_later_is_told_behind_sixty_steps(self):
        desk = Desk()
        desk.say(HALF)
        # By halves; a bound of twelve figures is come to within sixty steps.
        self.assertEqual(desk.say("within 1 999999999999"), "40")
        desk.say("walk 99 1 / 0 100")
        self.assertEqual(desk.say("within 1 2"), "later")
        self.assertEqual(desk.say("within 99 100"), "1")

    def test_by_the_functions(self):
        for walk in few_places():
            desk, keeper = Desk(), Keeper(walk)
            desk.say(line_of_walk(walk))
            many = len(walk)
            lines = ["forgets", "rest", "slowest", "rows", "within 1 3", "within 0 5", f"within {many} {many + 1}"]
            lines += [f"farthest {steps}" for steps in (0, 1, 4)]
            for x in range(many):
                lines += [f"separation {x} {steps}" for steps in (0, 3)]
                lines += [f"{word} {x} {y} {(x + y) % 4}" for word in ("apart", "chance") for y in range(many)]
            for line in lines:
                word, *numbers = line.split(" ")
                try:
                    told = question(keeper, word, [int(number) for number in numbers])
                except FadeError as refusal:
                    self.assert_refused(type(refusal), desk.say, line)
                else:
                    self.assertEqual(desk.say(line), told)

    def test_of_25_places(self):
        desk = Desk()
        for walk in great_walks():
            desk.say(line_of_walk(walk))
            keeper = Keeper(walk)
            for line in ("farthest 2", "apart 3 24 2", "chance 24 0 3", "rest", "forgets"):
                word, *numbers = line.split(" ")
                self.assertEqual(desk.say(line), question(keeper, word, [int(number) for number in numbers]))


class Forms(Refusals):
    def assert_no_line(self, line):
        self.assertIs(has_form(line), False, repr(line))
        for desk in self.desks():
            rows = desk.say("rows")
            self.assert_refused(NoLine, desk.say, line)
            self.assertEqual(desk.say("rows"), rows)

    def desks(self):
        desks = [Desk(), Desk(), Desk()]
        desks[1].say(HALF)
        desks[1].say("mark")
        desks[2].say(STAYS)
        return desks

    def test_another_first_word(self):
        for line in (
            "", "x", "Walk 1", "WALK 1", "walks 1", "wal 1", "ok", "yes", "/", "1", "0 1", "row", "rowss", "Rows",
            "farthest1", "turn 1", "twin", "after 0 1", "supposing 0 0 1 1", "reckoned", "say rows", "keeper", "flow 0",
            "mark\n", "\nmark", "mark\t", "\trows", "rows\n", "none", "is_rule", "apart/0/1/2", "walk/1",
        ):
            self.assert_no_line(line)

    def test_words_more_or_fewer(self):
        for word, many in WORDS.items():
            for numbers in range(7):
                line = " ".join([word] + ["1"] * numbers)
                if numbers != many:
                    self.assert_no_line(line)
                else:
                    self.assertIs(has_form(line), True)
        self.assert_no_line("walk")

    def test_empty_words(self):
        for line in ("", " ", "  ", "walk ", " walk", "walk  1"):
            self.assert_no_line(line)
        for word, many in list(WORDS.items()) + [("walk", 1)]:
            line = " ".join([word] + ["1"] * many)
            self.assert_no_line(" " + line)
            self.assert_no_line(line + " ")
            if many:
                self.assert_no_line(line.replace(" ", "  "))
                self.assert_no_line(line[:-1])
        self.assert_no_line("walk 1 1 /  0 2")
        self.assert_no_line("walk 1 1 / 0 2 ")
        self.assert_no_line("walk / ")

    def test_numbers_that_are_not_so_written(self):
        for number in (
            "00", "01", "007", "-1", "+1", "-0", "1.0", "1e3", "0x1", "1_0", "x", "1/2", "one", "1,", "1\n", "\t1",
            "True", "1000000000000", "0000000000001", "9999999999999", "1" * 30, "1" * 190, "None", "(1)", "~", "'1'",
        ):
            for word, many in list(WORDS.items()) + [("walk", 1), ("walk", 4)]:
                for at in range(many):
                    numbers = ["1"] * many
                    numbers[at] = number
                    self.assert_no_line(" ".join([word] + numbers))
            self.assert_no_line(f"walk 1 / {number}")
            self.assert_no_line(f"walk {number} 1 / 0 2")

    def test_bars_stand_behind_walk_alone(self):
        for line in ("/ walk 1", "farthest /", "move 0 0 1 /", "mark /", "rows /", "apart 0 / 1", "within 1 / 2"):
            self.assert_no_line(line)
        for line in ("walk 1 // 1", "walk 1/1", "walk /1", "walk 1/", "walk \\", "walk |", "walk 1 | 1"):
            self.assert_no_line(line)

    def test_twelve_figures(self):
        desk = Desk()
        self.assertEqual(desk.say("walk 999999999999"), "ok")
        self.assert_refused(NoLine, desk.say, "walk 1000000000000")
        self.assert_refused(NoPlace, desk.say, "move 999999999999 0 0 1")
        self.assert_refused(NoLine, desk.say, "move 9999999999990 0 0 1")
        self.assert_refused(NoSteps, desk.say, "farthest 999999999999")
        self.assert_refused(NoLine, desk.say, "farthest 1000000000000")
        self.assertEqual(desk.say("within 999999999998 999999999999"), "0")
        self.assert_refused(NoLine, desk.say, "within 1 1000000000000")
        self.assertEqual(desk.say("rows"), "999999999999")

    def test_what_is_no_text(self):
        for thing in no_numbers() + no_tuples() + [["mark"], ("mark",), {"mark": 1}, [], b"mark", deep_list(12)]:
            if type(thing) is not str:
                self.assert_no_line(thing)
        for thing in ("x" * 200, "\t\n ~", "(1, 2)"):
            self.assert_no_line(thing)


class Refusing(Refusals):
    def assert_all(self, said, kind, lines):
        """That each line is refused, and all is as it was."""
        desk = Desk()
        desk.say(said)
        desk.say("mark")
        rows = desk.say("rows")
        for line in lines:
            self.assert_refused(kind, desk.say, line)
            self.assertEqual(desk.say("rows"), rows)
        self.assertEqual(desk.say("undo"), "ok")
        self.assert_refused(NoDeed, desk.say, "undo")

    def test_walks(self):
        self.assert_all(HALF, BadWalk, (
            "walk 0", "walk 0 0 / 0 0", "walk 1 1", "walk 1 / 1", "walk 1 1 / 2", "walk 1 1 / 0 3", "walk 1 1 / 0 2 0",
            "walk 1 / 1 1", "walk " + " / ".join(["1 " * 25 + "1"] * 26), "walk 0 1 / 1 0 / 1 0",
        ))

    def test_bars_anywhere(self):
        self.assert_all(HALF, BadWalk, (
            "walk /", "walk / /", "walk / / /", "walk 1 /", "walk / 1", "walk 1 / / 1", "walk / 1 /",
            "walk 1 1 / 0 2 /", "walk / 1 1 / 0 2", "walk 1 1 / / 0 2", "walk 1 / 1 / 0 2",
            "walk " + " ".join("/" * 40),
        ))
        self.assertEqual(Desk().say("walk 1"), "ok")

    def test_places(self):
        self.assert_all(HALF, NoPlace, (
            "move 2 0 1 1", "move 0 2 1 1", "move 0 0 2 1", "move 2 2 2 0", "move 0 0 2 0", "move 0 0 9 9",
            "apart 2 0 1", "apart 0 2 1", "apart 2 2 1", "chance 2 0 1", "chance 0 2 1",
        ))
        self.assert_all(STEEP, NoPlace, ("separation 2 1", "separation 999999999999 0", "separation 2 101"))

    def test_places_ahead_of_steps(self):
        self.assert_all(HALF, NoPlace, (
            "apart 0 2 101", "apart 2 0 101", "apart 2 2 101", "apart 1 5 999999999999", "chance 0 2 101",
            "chance 2 0 101",
        ))

    def test_steps(self):
        self.assert_all(HALF, NoSteps, (
            "apart 0 1 101", "apart 1 1 101", "farthest 101", "chance 0 1 101", "farthest 999999999999",
        ))
        self.assert_all(STEEP, NoSteps, ("separation 0 101", "separation 1 999999999999"))

    def test_moves_and_numbers(self):
        self.assert_all(HALF, NoNumber, ("move 0 0 1 0", "move 0 0 0 0", "move 1 0 1 0"))
        self.assert_all(HALF, NoMove, ("move 0 0 0 1", "move 1 0 1 1", "move 0 0 1 2", "move 1 1 0 999999999999"))

    def test_bounds(self):
        for said in (HALF, STAYS, "walk 1"):
            self.assert_all(said, NoBound, ("within 1 1", "within 0 0", "within 1 0", "within 2 1", "within 5 5"))

    def test_rests(self):
        for said in (HALF, STAYS, line_of_walk(great_walks()[3])):
            self.assert_all(said, NoRest, ("separation 0 1", "separation 9 1", "separation 0 101", "slowest"))

    def test_too_many(self):
        desk = Desk()
        desk.say(line_of_walk(ring(9)))
        refusal = self.assert_refused(TooMany, desk.say, "slowest")
        self.assertEqual((refusal.many, refusal.most), (9, 8))
        desk.say(line_of_walk(ring(8)))
        self.assertEqual(desk.say("slowest"), "1/4 0 1 2 3")

    def test_marks_and_deeds(self):
        desk = Desk()
        desk.say(HALF)
        self.assert_refused(NoMark, desk.say, "back")
        self.assert_refused(NoDeed, desk.say, "undo")
        desk.say("move 0 0 1 1")
        self.assert_refused(NoMark, desk.say, "back")
        self.assertEqual(desk.say("rows"), "0 2 / 0 2")


class Together(Refusals):
    def both(self, desk, model, line):
        """What a desk and its model say to a line; the same, or a refusal of the same class."""
        try:
            told = model.say(line)
        except FadeError as refusal:
            self.assert_refused(type(refusal), desk.say, line)
            return type(refusal)
        self.assertEqual(desk.say(line), told, line)
        return "told"

    def test_lines_one_behind_another(self):
        seen = set()
        for seed, walk in enumerate([walk for walk in few_places() if len(walk) <= 4]):
            chooser = random.Random(seed)
            desk, model = Desk(), Model()
            self.both(desk, model, line_of_walk(walk))
            for time in range(60):
                line = some_line(chooser, len(walk))
                if chooser.random() < 0.3:
                    line = bent(chooser, line)
                seen.add(self.both(desk, model, line))
                self.both(desk, model, "rows")
        self.assertTrue({"told", NoLine, NoPlace, NoNumber, NoMove, NoMark, NoDeed, NoRest, NoSteps, NoBound} <= seen)

    def test_lines_of_walks_bent(self):
        seen = set()
        for seed, walk in enumerate(few_places()):
            chooser = random.Random(seed)
            desk, model = Desk(), Model()
            for time in range(60):
                seen.add(self.both(desk, model, bent(chooser, line_of_walk(walk))))
                self.both(desk, model, "rows")
        self.assertEqual(seen, {"told", NoLine, BadWalk})

    def test_two_desks_have_nothing_in_common(self):
        for seed, walk in enumerate([walk for walk in few_places() if 2 <= len(walk) <= 3]):
            chooser = random.Random(seed)
            pairs = [(Desk(), Model()) for time in range(3)]
            for time in range(60):
                desk, model = chooser.choice(pairs)
                line = chooser.choice((line_of_walk(walk), some_line(chooser, 2), some_line(chooser, 2)))
                self.both(desk, model, line)
                for other, held in pairs:
                    self.both(other, held, "rows")

    def test_a_desk_made_later_is_new(self):
        desk = Desk()
        desk.say(HALF)
        desk.say("mark")
        other = Desk()
        self.assertEqual(other.say("rows"), "1")
        self.assert_refused(NoMark, other.say, "back")
        self.assertEqual(desk.say("rows"), "1 1 / 0 2")


class Keeping(Refusals):
    def test_nothing_handed_in_is_changed(self):
        desk = Desk()
        for thing in no_numbers() + no_tuples():
            ahead = copy.deepcopy(thing)
            self.assert_refused(NoLine, desk.say, thing)
            self.assertEqual(repr(thing), repr(ahead))

    def test_the_same_asked_again(self):
        for walk in few_places():
            desk = Desk()
            desk.say(line_of_walk(walk))
            for line in ("rows", "rest", "forgets", "farthest 3", "apart 0 0 2", "within 1 4", "chance 0 0 4"):
                first = desk.say(line)
                self.assertIs(type(first), str)
                self.assertEqual(desk.say(line), first)


if __name__ == "__main__":
    unittest.main()
