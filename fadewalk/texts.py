"""Texts of walks: a line for each row, the weights in figures."""

from fadewalk.errors import NoText
from fadewalk.lots import MOST_PLACES
from fadewalk.walks import Walk

FIGURES = "0123456789"


def line_of(weights):
    """Tell the weights in figures, a blank between."""
    return " ".join([str(weight) for weight in weights])


def is_written(word):
    """Tell whether a word is a whole number from 0 on in figures, without a nought ahead but 0 itself."""
    if word == "" or not all([sign in FIGURES for sign in word]):
        return False
    return word == "0" or word[0] != "0"


def written(walk):
    """Tell the walk's text."""
    return "".join([f"{line_of(row)}\n" for row in walk.rows])


def lines_of(text):
    """Tell the lines of a text of at most 25, each with a line end behind; else refuse it as a whole."""
    if not isinstance(text, str) or not text.endswith("\n"):
        raise NoText(0)
    lines = text[:-1].split("\n")
    if len(lines) > MOST_PLACES:
        raise NoText(0)
    return lines


def read(text):
    """Tell the walk that is just so written."""
    lines = lines_of(text)
    rows = []
    for number, line in enumerate(lines, start=1):
        words = line.split(" ")
        if len(words) != len(lines) or not all([is_written(word) for word in words]):
            raise NoText(number)
        rows.append(tuple([int(word) for word in words]))
        if sum(rows[-1]) != sum(rows[0]) or sum(rows[-1]) == 0:
            raise NoText(number)
    return Walk(tuple(rows))
