"""How far lots lie apart, shown by a set of places and by a joining at once."""

from fadewalk.lots import are_rising_places, are_rows, refuse_unlike_lots
from fadewalk.numbers import least_multiple, plain_of


def brought(one, other):
    """Tell both lots with their weights multiplied so that they have one sum, the least."""
    common = least_multiple(sum(one), sum(other))
    first = tuple([weight * (common // sum(one)) for weight in one])
    second = tuple([weight * (common // sum(other)) for weight in other])
    return (first, second)


def places_of_more(first, second):
    """Tell the rising tuple of places where the first of two lots of one sum has more."""
    return tuple([place for place in range(len(first)) if first[place] > second[place]])


def more_in(first, second, places):
    """Tell what the first of two lots of one sum has more than the second at the places together."""
    return sum([first[place] - second[place] for place in places])


def most_more(first, second):
    """Tell what the first of two lots of one sum has more where it has more."""
    return more_in(first, second, places_of_more(first, second))


def joins(first, second, thing):
    """Tell whether a thing is a joining of two lots of one sum."""
    many = len(first)
    if not are_rows(thing, many):
        return False
    columns = [tuple([row[place] for row in thing]) for place in range(many)]
    return [sum(row) for row in thing] == list(first) and [sum(column) for column in columns] == list(second)


def parted(joining):
    """Tell what stands off the diagonal of a joining."""
    return sum([sum(row) - row[place] for place, row in enumerate(joining)])


def least_joining(first, second):
    """Tell a joining of two lots of one sum with the least parted."""
    many = len(first)
    joining = [[0] * many for place in range(many)]
    for place in range(many):
        joining[place][place] = min(first[place], second[place])
    # Where one lot has something left, the other has nothing, so what is left is all parted.
    left = [first[place] - joining[place][place] for place in range(many)]
    wanted = [second[place] - joining[place][place] for place in range(many)]
    for x in range(many):
        for y in range(many):
            moved = min(left[x], wanted[y])
            joining[x][y] += moved
            left[x] -= moved
            wanted[y] -= moved
    return tuple([tuple(row) for row in joining])


def pairs_of(things):
    """Tell the pairs of all things, each with those behind it, in order."""
    return [(things[x], things[y]) for x in range(len(things)) for y in range(x + 1, len(things))]


def are_joinings(lots, thing):
    """Tell whether a thing is a tuple with a joining for each pair of several lots of one sum, in order."""
    pairs = pairs_of(lots)
    if not isinstance(thing, tuple) or len(thing) != len(pairs):
        return False
    return all([joins(first, second, joining) for (first, second), joining in zip(pairs, thing)])


def least_joinings(lots):
    """Tell for each pair of several lots of one sum, in order, a joining with the least parted."""
    return tuple([least_joining(first, second) for first, second in pairs_of(lots)])


def apart(one, other):
    """Tell how far two lots lie apart."""
    refuse_unlike_lots(one, other)
    first, second = brought(one, other)
    return plain_of(most_more(first, second), sum(first))


def is_joining(one, other, thing):
    """Tell whether a thing is a joining of two lots."""
    refuse_unlike_lots(one, other)
    first, second = brought(one, other)
    return joins(first, second, thing)


def is_paper(one, other, thing):
    """Tell whether a thing is a paper of two lots: a set of places and a joining that bear out one another."""
    refuse_unlike_lots(one, other)
    if not isinstance(thing, tuple) or len(thing) != 2:
        return False
    first, second = brought(one, other)
    places, joining = thing
    if not are_rising_places(places, len(first)) or not joins(first, second, joining):
        return False
    return more_in(first, second, places) == parted(joining)


def paper_of(one, other):
    """Tell a paper of two lots, its set the places where the first has more."""
    refuse_unlike_lots(one, other)
    first, second = brought(one, other)
    return (places_of_more(first, second), least_joining(first, second))


def farthest_of(lots):
    """Tell (fraction, x, y) of the two of several lots of one sum that lie farthest apart, of several the first."""
    most, one, other = 0, 0, 0
    for x in range(len(lots)):
        for y in range(x + 1, len(lots)):
            more = most_more(lots[x], lots[y])
            if more > most:
                most, one, other = more, x, y
    return (plain_of(most, sum(lots[0])), one, other)


def farthest(walk, *, steps=1):
    """Tell (fraction, x, y) of the starts whose lots lie farthest apart after so many steps."""
    return farthest_of(walk.power(steps))
