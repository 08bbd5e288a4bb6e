import copy
import random
import re
import unittest

from fadewalk.errors import NoText
from fadewalk.making import folded
from fadewalk.texts import read, written
from fadewalk.walks import Walk
from samples import GREAT, Refusals, deep_list, few_places, great_walks, no_numbers, no_tuples, ring

HALF = Walk(((1, 1), (0, 2)))
NUMBER = "(0|[1-9][0-9]*)"


def wrong_line(text):
    """The line that is told of a text that writes no walk, by the words of the document; None of one that does."""
    if type(text) is not str or text[-1:] != "\n":
        return 0
    lines = text.split("\n")[:-1]
    if len(lines) > 25:
        return 0
    form = " ".join([NUMBER] * len(lines))
    sums = []
    for number, line in enumerate(lines, start=1):
        if not re.fullmatch(form, line):
            return number
        sums.append(sum(int(word) for word in line.split(" ")))
        if sums[-1] != sums[0] or sums[-1] == 0:
            return number
    return None


def square(many, weight="1"):
    """A text of so many lines of as many numbers."""
    return f"{' '.join([weight] * many)}\n" * many


def changed(text):
    """The text with one sign otherwise, put in or left out, and with one line otherwise, put in or left out."""
    found = []
    for at in range(len(text) + 1):
        found += [text[:at] + sign + text[at:] for sign in "0 1\n-x\t/"]
        found += [text[:at] + text[at + 1:]] + [text[:at] + sign + text[at + 1:] for sign in "027 \n.+_"]
    lines = text.split("\n")
    for at in range(len(lines) + 1):
        found += ["\n".join(lines[:at] + [line] + lines[at:]) for line in ("", "0", "1 1", lines[0], lines[-1])]
        found += ["\n".join(lines[:at] + [line] + lines[at + 1:]) for line in ("", "0 0", "00", lines[0] + " ")]
        found += ["\n".join(lines[:at] + lines[at + 1:]), "\n".join(lines[at:] + lines[:at])]
    return found


class Written(Refusals):
    def test_by_hand(self):
        self.assertEqual(written(Walk(((1,),))), "1\n")
        self.assertEqual(written(HALF), "1 1\n0 2\n")
        self.assertEqual(written(walk=Walk(((10, 0, 20), (0, 30, 0), (7, 8, 15)))), "10 0 20\n0 30 0\n7 8 15\n")
        self.assertEqual(written(Walk(((GREAT, 0), (0, GREAT)))), "999999999999 0\n0 999999999999\n")

    def test_one_line_a_row(self):
        for walk in few_places() + great_walks():
            lines = written(walk).split("\n")
            self.assertEqual(lines[-1], "")
            self.assertEqual(lines[:-1], [" ".join(str(weight) for weight in row) for row in walk.rows])


class Read(Refusals):
    def assert_read(self, text):
        """That a text is read as the document says, or refused with the right line."""
        number = wrong_line(text)
        if number is None:
            walk = read(text)
            self.assertIs(type(walk), Walk)
            self.assertEqual(written(walk), text)
        else:
            refusal = self.assert_refused(NoText, read, text)
            self.assertEqual(refusal.line, number, repr(text))
            self.assertIs(type(refusal.line), int)
        return number

    def assert_line(self, line, text):
        self.assertEqual(self.assert_refused(NoText, read, text).line, line, repr(text))

    def test_by_hand(self):
        self.assertEqual(read("1\n"), Walk(((1,),)))
        self.assertEqual(read(text="1 1\n0 2\n"), HALF)
        self.assertEqual(read("10 0\n3 7\n").rows, ((10, 0), (3, 7)))
        self.assertEqual(read("999999999999 0\n0 999999999999\n"), Walk(((GREAT, 0), (0, GREAT))))

    def test_refused_as_a_whole(self):
        for text in ("", "1", "1 1\n0 2", " ", "x", "1 1\n0 2\n ", "\n1", "1\r"):
            self.assert_line(0, text)
        self.assert_line(0, square(26))
        self.assert_line(0, "x\n" * 26)
        self.assert_line(0, "\n" * 26)
        self.assert_line(0, square(25) + "1")
        self.assertEqual(read(square(25)), Walk(((1,) * 25,) * 25))
        self.assert_line(1, square(24) + "1\n")
        self.assert_line(1, "\n" * 25)
        self.assert_line(0, square(25) + "\n")

    def test_refused_by_a_line(self):
        self.assert_line(1, "\n")
        self.assert_line(1, "0\n")
        self.assert_line(1, "00\n")
        self.assert_line(1, "01\n")
        self.assert_line(1, "-1\n")
        self.assert_line(1, "+1\n")
        self.assert_line(1, "1 \n")
        self.assert_line(1, " 1\n")
        self.assert_line(1, "1 1\n")
        self.assert_line(1, "1\n\n")
        self.assert_line(1, "1  1\n0 2\n")
        self.assert_line(1, "1\t1\n0 2\n")
        self.assert_line(1, "1 1 1\n0 2\n")
        self.assert_line(2, "1 1\n2\n")
        self.assert_line(2, "1 1\n0 2 0\n")
        self.assert_line(2, "1 1\n0 3\n")
        self.assert_line(2, "1 1\n0 02\n")
        self.assert_line(2, "1 1\n2 00\n")
        self.assert_line(2, "1 1\n1 1.0\n")
        self.assert_line(2, "1 1\n1_0 1\n")
        self.assert_line(1, "0 0\n0 0\n")
        self.assert_line(1, "0 0\n0 2\n")
        self.assert_line(2, "1 1\n0 0\n")
        self.assert_line(3, "1 1 1\n0 3 0\n1 1 0\n")
        self.assert_line(2, "1 1 1\n1 1\n1 1 0\n")
        self.assert_line(2, "1 1 1\n\n1 1 1\n")
        self.assert_line(25, square(25)[:-2] + "2\n")
        # Of several wrong lines the first, whatever is wrong with it.
        self.assert_line(2, "1 1 1\n1 1 2\nx\n")
        self.assert_line(2, "1 1 1\nx\n1 1 2\n")

    def test_walks_written_and_read_again(self):
        for walk in few_places() + great_walks() + [folded(ring(3), 2), folded(HALF, 100)]:
            again = read(written(walk))
            self.assertEqual(again, walk)
            self.assertEqual(again.whole, walk.whole)

    def test_with_one_sign_or_line_otherwise(self):
        told = set()
        for walk in [walk for walk in few_places() if len(walk) <= 4]:
            for text in changed(written(walk)):
                told.add(self.assert_read(text))
        self.assertTrue({None, 0, 1, 2, 3, 4} <= told)

    def test_texts_of_few_signs(self):
        chooser = random.Random(7)
        for time in range(4000):
            text = "".join(chooser.choice("00112 \n\n") for sign in range(chooser.randint(0, 9)))
            self.assert_read(text)
            self.assert_read(text + "\n")

    def test_of_what_is_no_text(self):
        things = no_numbers() + no_tuples() + [("1\n",), ["1\n"], {"1\n": "1\n"}, deep_list(12), 1, 0, HALF.rows]
        for thing in things:
            if type(thing) is not str:
                self.assert_line(0, thing)
        for thing in ("", "x" * 200, "(1, 2)", "\t\n ~"):
            self.assert_read(thing)


class Keeping(Refusals):
    def test_nothing_handed_in_is_changed(self):
        for thing in no_numbers() + no_tuples():
            ahead = copy.deepcopy(thing)
            self.assert_refused(NoText, read, thing)
            self.assertEqual(repr(thing), repr(ahead))

    def test_the_same_asked_again(self):
        for walk in few_places():
            ahead = repr(walk)
            text = written(walk)
            self.assertEqual(written(walk), text)
            self.assertEqual(read(text), read(text))
            self.assertEqual(repr(walk), ahead)


if __name__ == "__main__":
    unittest.main()
