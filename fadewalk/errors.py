"""The refusals of the program: one class for each, all straight under FadeError."""


class FadeError(ValueError):
    """Whatever the program refuses."""


class NoFraction(FadeError):
    """What was handed in is no fraction."""


class NoLot(FadeError):
    """What was handed in is no lot."""


class Unlike(FadeError):
    """Two things are not of as many places."""


class BadWalk(FadeError):
    """Rows are none of which a walk can be made."""


class NoWalk(FadeError):
    """What was handed in is no walk."""


class NoSteps(FadeError):
    """What was handed in is no number of steps."""


class NoPlace(FadeError):
    """What was handed in is no place of the walk."""


class NoNumber(FadeError):
    """What was handed in is no whole number of the span told."""


class NoSet(FadeError):
    """What was handed in is no set of places as told."""


class NoRest(FadeError):
    """The walk is none of one rest."""


class NoBound(FadeError):
    """What was handed in is no bound."""


class NoRule(FadeError):
    """What was handed in is no rule of the walk."""


class NoPlan(FadeError):
    """What was handed in is no plan of the start."""


class NoParts(FadeError):
    """What was handed in are no parts of the walk."""


class NoMove(FadeError):
    """The weight can't be moved so."""


class NoMark(FadeError):
    """There is no mark to go back to."""


class NoDeed(FadeError):
    """There is no deed to undo."""


class NoLine(FadeError):
    """What was said is no line that a desk knows."""


class NoText(FadeError):
    """A text writes no walk; line is the first wrong one, from 1, or 0 for the text as a whole."""

    def __init__(self, line):
        FadeError.__init__(self, f"the text writes no walk: line {line}")
        self.line = line


class TooMany(FadeError):
    """There are many of something, of which the function takes most."""

    def __init__(self, many, most):
        FadeError.__init__(self, f"there are {many}, and {most} at most are taken")
        self.many = many
        self.most = most
