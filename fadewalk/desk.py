"""A desk that is told lines of words, and answers with texts."""

from fadewalk.apart import apart
from fadewalk.cuts import slowest
from fadewalk.errors import NoLine, NoRest
from fadewalk.keeper import Keeper
from fadewalk.rests import one_rest
from fadewalk.stopping import separation
from fadewalk.texts import is_written, line_of
from fadewalk.walks import Walk, refuse_no_place
from fadewalk.within import first_within

MOST_FIGURES = 12


def words_of(line):
    """Tell the words of a line."""
    if not isinstance(line, str):
        raise NoLine("a line is a text of words with one blank between")
    # Blanks elsewhere make an empty word, which is neither a first word nor a number.
    return line.split(" ")


def number_of(word):
    """Tell the number that a word writes."""
    if not is_written(word) or len(word) > MOST_FIGURES:
        raise NoLine(f"a number is of at most {MOST_FIGURES} figures, without a nought ahead")
    return int(word)


def rows_of(words):
    """Tell the rows that words write, with bars between them."""
    rows = [[]]
    for word in words:
        if word == "/":
            rows.append([])
        else:
            rows[-1].append(number_of(word))
    return tuple([tuple(row) for row in rows])


def fraction_text(fraction):
    """Tell a fraction as it is written."""
    return f"{fraction[0]}/{fraction[1]}"


def say_move(keeper, numbers):
    """Move weight, and tell that it is done."""
    x, y, z, many = numbers
    keeper.move(x, y, z, many=many)
    return "ok"


def say_mark(keeper, numbers):
    """Set a mark, and tell that it is done."""
    keeper.mark()
    return "ok"


def say_back(keeper, numbers):
    """Go back to the last mark, and tell that it is done."""
    keeper.back()
    return "ok"


def say_undo(keeper, numbers):
    """Undo the last deed, and tell that it is done."""
    keeper.undo()
    return "ok"


def say_apart(keeper, numbers):
    """Tell how far two starts lie apart after so many steps."""
    one, other, steps = numbers
    # The steps would be refused with the first place, ahead of the second.
    refuse_no_place(keeper.walk(), other)
    return fraction_text(apart(keeper.after(one, steps=steps), keeper.after(other, steps=steps)))


def say_farthest(keeper, numbers):
    """Tell how far the farthest starts lie apart after so many steps, and which they are."""
    gap, one, other = keeper.farthest(steps=numbers[0])
    return f"{fraction_text(gap)} {one} {other}"


def say_forgets(keeper, numbers):
    """Tell whether the walk forgets, and of its meeting the steps and the place."""
    answer, shown = keeper.forgets()
    return f"yes {shown[0]} {shown[1]}" if answer == "yes" else "no"


def say_rest(keeper, numbers):
    """Tell the weights of the rest of a walk of one rest."""
    try:
        return line_of(one_rest(keeper.walk()))
    except NoRest:
        return "none"


def say_within(keeper, numbers):
    """Tell after how many steps all starts lie within a bound."""
    told = first_within(keeper.walk(), tuple(numbers))
    return str(told[1]) if told[0] == "at" else told[0]


def say_chance(keeper, numbers):
    """Tell the chance of being at a place after so many steps from a start."""
    start, place, steps = numbers
    return fraction_text(keeper.walk().chance(start, place, steps=steps))


def say_separation(keeper, numbers):
    """Tell the separation of a start after so many steps."""
    start, steps = numbers
    return fraction_text(separation(keeper.walk(), start, steps=steps))


def say_slowest(keeper, numbers):
    """Tell the flow out of the slowest cut, and its places."""
    told = slowest(keeper.walk())
    return "none" if told is None else f"{fraction_text(told[0])} {line_of(told[1])}"


def say_rows(keeper, numbers):
    """Tell the rows with bars between them."""
    return " / ".join([line_of(row) for row in keeper.walk().rows])


# For each first word but walk what is said to it, and how many numbers stand behind it.
ANSWERS = {
    "move": say_move, "mark": say_mark, "back": say_back, "undo": say_undo, "apart": say_apart,
    "farthest": say_farthest, "forgets": say_forgets, "rest": say_rest, "within": say_within, "chance": say_chance,
    "separation": say_separation, "slowest": say_slowest, "rows": say_rows,
}
NUMBERS = {
    "move": 4, "mark": 0, "back": 0, "undo": 0, "apart": 3, "farthest": 1, "forgets": 0, "rest": 0, "within": 2,
    "chance": 3, "separation": 2, "slowest": 0, "rows": 0,
}


class Desk:
    """Keeps a keeper, does with it what it is told, and answers what it is asked."""

    def __init__(self):
        self.keeper = Keeper(Walk(((1,),)))

    def say(self, line):
        """Tell the answer to a line."""
        first, *others = words_of(line)
        if first == "walk" and others:
            self.keeper = Keeper(Walk(rows_of(others)))
            return "ok"
        if first not in ANSWERS or len(others) != NUMBERS[first]:
            raise NoLine("a line is a word that a desk knows, with as many numbers behind it as belong there")
        answer = ANSWERS[first]
        return answer(self.keeper, [number_of(word) for word in others])
