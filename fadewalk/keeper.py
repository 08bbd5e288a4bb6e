"""A keeper of a walk that is changed by deeds, led back and asked."""

from fadewalk.apart import farthest_of
from fadewalk.errors import NoDeed, NoMark, NoMove, NoWalk
from fadewalk.forgetting import forgets
from fadewalk.making import refuse_less
from fadewalk.texts import written
from fadewalk.walks import Walk, refuse_no_place, refuse_no_steps, stepped


def refuse_no_move(walk, x, y, z, many):
    """Raise NoPlace where one of the three is no place of the walk, then NoNumber where many isn't from 1 on."""
    for place in (x, y, z):
        refuse_no_place(walk, place)
    refuse_less(many, 1)


def moved(walk, x, y, z, many):
    """Tell the walk with so much weight of row x gone from y to z."""
    if y == z or walk.rows[x][y] < many:
        raise NoMove("so much weight can't go from the one place to another")
    row = list(walk.rows[x])
    row[y] -= many
    row[z] += many
    return Walk(walk.rows[:x] + (tuple(row),) + walk.rows[x + 1:])


class Keeper:
    """Keeps a walk, its marks, what undoes its deeds, and the powers that were made of it."""

    def __init__(self, walk):
        if not isinstance(walk, Walk):
            raise NoWalk("a keeper keeps a walk")
        self.kept = walk
        self.marks = ()
        # For each deed that can be undone the walk and the marks as they were ahead of it.
        self.deeds = []
        self.powers = [walk.power(0)]
        self.made = 0

    def __len__(self):
        return len(self.kept)

    def __eq__(self, other):
        return isinstance(other, Keeper) and self.kept == other.kept

    def __repr__(self):
        return f"Keeper({len(self.kept)} places, {len(self.deeds)} deeds)"

    def __str__(self):
        return str(written(self.kept))

    def change(self, walk, marks):
        """Keep this walk and these marks from now on, and none of the powers made so far."""
        self.kept = walk
        self.marks = marks
        self.powers = [walk.power(0)]

    def do(self, walk, marks):
        """Change to this walk and these marks by a deed that can be undone."""
        self.deeds.append((self.kept, self.marks))
        self.change(walk, marks)

    def move(self, x, y, z, *, many=1):
        """Let so much weight of row x go from y to z."""
        refuse_no_move(self.kept, x, y, z, many)
        self.do(moved(self.kept, x, y, z, many), self.marks)

    def mark(self):
        """Set a mark at the walk as it is."""
        self.do(self.kept, self.marks + (self.kept,))

    def back(self):
        """Go back to the last mark, which goes."""
        if len(self.marks) == 0:
            raise NoMark("there is no mark to go back to")
        self.do(self.marks[-1], self.marks[:-1])

    def undo(self):
        """Undo the last deed that was done and not undone yet."""
        if len(self.deeds) == 0:
            raise NoDeed("there is no deed to undo")
        walk, marks = self.deeds.pop()
        self.change(walk, marks)

    def walk(self):
        """Tell the walk as it is."""
        return self.kept

    def power_after(self, steps):
        """Tell the power of so many steps, and make and keep all up to it that aren't kept yet."""
        while len(self.powers) <= steps:
            last = self.powers[-1]
            self.powers.append(tuple([stepped(self.kept.rows, lot) for lot in last]))
            self.made += 1
        return self.powers[steps]

    def after(self, start, *, steps=1):
        """Tell the lot after so many steps from a start."""
        refuse_no_place(self.kept, start)
        refuse_no_steps(steps)
        return self.power_after(steps)[start]

    def farthest(self, *, steps=1):
        """Tell (fraction, x, y) of the starts whose lots lie farthest apart after so many steps."""
        refuse_no_steps(steps)
        return farthest_of(self.power_after(steps))

    def forgets(self):
        """Tell ("yes", meeting) where the walk forgets, and ("no", rings) where it doesn't."""
        return forgets(self.kept)

    def supposing(self, x, y, z, *, many=1, steps=1):
        """Tell (farthest, forgets) as they would be behind a move."""
        refuse_no_move(self.kept, x, y, z, many)
        refuse_no_steps(steps)
        walk = moved(self.kept, x, y, z, many)
        return (farthest_of(walk.power(steps)), forgets(walk))

    def reckoned(self):
        """Tell how many powers were made, from the beginning on."""
        return self.made

    def twin(self):
        """Tell another keeper with the same walk, marks and deeds, that has made nothing."""
        other = Keeper(self.kept)
        other.marks = self.marks
        other.deeds = list(self.deeds)
        return other
