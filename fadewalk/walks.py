"""Walks: rows of weights by which one goes from place to place."""

from fadewalk.errors import BadWalk, NoPlace, NoSet, NoSteps, Unlike
from fadewalk.lots import MOST_PLACES, are_rows, is_place, is_set, refuse_no_lot
from fadewalk.numbers import is_whole, plain_of

MOST_STEPS = 100


def can_be_walked(thing):
    """Tell whether a thing is rows of which a walk can be made."""
    if not isinstance(thing, tuple) or not 1 <= len(thing) <= MOST_PLACES or not are_rows(thing, len(thing)):
        return False
    whole = sum(thing[0])
    return whole >= 1 and all([sum(row) == whole for row in thing])


def refuse_no_steps(thing):
    """Raise NoSteps of what is no number of steps."""
    if not is_whole(thing) or not 0 <= thing <= MOST_STEPS:
        raise NoSteps(f"steps are a whole number from 0 to {MOST_STEPS}")


def refuse_no_place(walk, thing):
    """Raise NoPlace of what is no place of the walk."""
    if not is_place(thing, len(walk)):
        raise NoPlace(f"a place is a whole number from 0 up, less than {len(walk)}")


def refuse_no_set(walk, thing):
    """Raise NoSet of what is no rising tuple of one place of the walk and more."""
    if not is_set(thing, len(walk)):
        raise NoSet("a set is a rising tuple of one place of the walk and more")


def lot_at(place, many):
    """Tell the lot of so many places that has 1 at the place and 0 elsewhere."""
    return tuple([1 if at == place else 0 for at in range(many)])


def stepped(rows, lot):
    """Tell the lot to which one step by the rows leads a lot."""
    return tuple([sum([weight * row[place] for weight, row in zip(lot, rows)]) for place in range(len(lot))])


class Walk:
    """A walk from place to place: from x to y in rows[x][y] of whole cases."""

    def __init__(self, rows):
        if not can_be_walked(rows):
            raise BadWalk(f"rows are one to {MOST_PLACES} tuples of as many weights, of one sum from 1 on")
        self.rows = rows
        self.whole = sum(rows[0])

    def __len__(self):
        return len(self.rows)

    def __eq__(self, other):
        return isinstance(other, Walk) and self.rows == other.rows

    def __repr__(self):
        return f"Walk({self.rows!r})"

    def after(self, lot, *, steps=1):
        """Tell the lot to which so many steps lead a lot."""
        refuse_no_lot(lot)
        if len(lot) != len(self.rows):
            raise Unlike("the lot has not as many weights as the walk has places")
        refuse_no_steps(steps)
        for step in range(steps):
            lot = stepped(self.rows, lot)
        return lot

    def power(self, steps):
        """Tell rows: for each place the lot to which so many steps lead from it."""
        many = len(self.rows)
        return tuple([self.after(lot_at(place, many), steps=steps) for place in range(many)])

    def chance(self, start, place, *, steps=1):
        """Tell the chance of being at a place after so many steps from the start."""
        refuse_no_place(self, start)
        refuse_no_place(self, place)
        lot = self.after(lot_at(start, len(self.rows)), steps=steps)
        return plain_of(lot[place], sum(lot))
