"""Things of many kinds that tests hand in; not a test itself."""


def deep_list(depth):
    """A list within a list, so many deep."""
    thing = []
    for at in range(depth - 1):
        thing = [thing]
    return thing


def no_tuples():
    """Things that are no tuple at all, made anew for each asker."""
    return [
        None, True, False, 0, 1, -1, 999999999999, "", "a", "(1, 2)", "1/2", "\t\n ~", "x" * 200,
        [], [1], [1, 2], [[1, 2]], [(1, 2)], {}, {1: 2}, {"above": 1, "below": 2}, {(1, 2): (1, 2)},
        {0: 1, 1: 2}, {None: True}, deep_list(12), [0] * 39999, [1] * 25,
    ]


def no_numbers():
    """Things that are no whole number, made anew for each asker."""
    return [None, True, False, "", "1", "12", [], [1], (), (1,), (1, 2), {}, {1: 1}, deep_list(11)]
