"""Joined walks: two walkers that go on by a rule until they meet, and then together."""

from fadewalk.apart import are_joinings, least_joinings, pairs_of
from fadewalk.errors import NoRule
from fadewalk.numbers import plain_of
from fadewalk.walks import refuse_no_place, refuse_no_steps


def is_rule(walk, thing):
    """Tell whether a thing is a rule of the walk."""
    return are_joinings(walk.rows, thing)


def refuse_no_rule(walk, thing):
    """Raise NoRule of what is no rule of the walk."""
    if not is_rule(walk, thing):
        raise NoRule("a rule is a tuple with a joining of rows x and y for all places x below y, in order")


def best_rule(walk):
    """Tell a rule with the least parted in each joining."""
    return least_joinings(walk.rows)


def pair_at(one, other):
    """Tell the pair of two unlike places, the lower first."""
    return (min(one, other), max(one, other))


def next_pairs(walk, rule):
    """Tell for each pair the pairs to which the rule leads without a meeting, each with its cases of whole."""
    nexts = {}
    for pair, joining in zip(pairs_of(list(range(len(walk)))), rule):
        nexts[pair] = [
            (pair_at(u, v), cases)
            for u, row in enumerate(joining) for v, cases in enumerate(row) if u != v and cases > 0
        ]
    return nexts


def led_on(nexts, weights):
    """Tell the weights of pairs that have not met yet, one step behind those handed in."""
    further = {}
    for pair, weight in weights.items():
        for following, cases in nexts[pair]:
            further[following] = further.get(following, 0) + weight * cases
    return further


def unmet(walk, rule, one, other, *, steps=1):
    """Tell the fraction of cases in which two walkers haven't met after so many steps by the rule."""
    refuse_no_rule(walk, rule)
    refuse_no_place(walk, one)
    refuse_no_place(walk, other)
    refuse_no_steps(steps)
    nexts = next_pairs(walk, rule)
    weights = {} if one == other else {pair_at(one, other): 1}
    whole = 1
    for step in range(steps):
        weights = led_on(nexts, weights)
        whole *= walk.whole
    return plain_of(sum(weights.values()), whole)


def kept_apart(walk, nexts, pairs):
    """Tell those of the pairs, keys of a dict, from which all cases lead to such pairs."""
    return {
        pair: True for pair in pairs
        if sum([cases for following, cases in nexts[pair] if following in pairs]) == walk.whole
    }


def meets(walk, rule):
    """Tell ("yes", steps) where each two may meet by the rule, and ("no", pairs) that never do where not."""
    refuse_no_rule(walk, rule)
    nexts = next_pairs(walk, rule)
    steps = 0
    left = {pair: True for pair in nexts}
    while left:
        still = kept_apart(walk, nexts, left)
        # Where no pair more may have met, none ever will: what is left is the greatest such set.
        if len(still) == len(left):
            return ("no", tuple(left))
        left = still
        steps += 1
    return ("yes", steps)
