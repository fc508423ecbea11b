"""Pairs of worlds that are stepped by the same keys, and how long they can be unlike."""

from savedback.games import is_number, is_world
from savedback.steps import all_steps


def unlike_for(game, one, other):
    """Return the greatest number of keys behind which both can be unlike.

    It is -1 if they are the same, and None if there is no greatest one.
    """
    return _number(_greatest(pairs_behind(all_steps(game))), one, other)


def table(game):
    """Return the rows (one, other, n, key) for all pairs, with the least right key."""
    return tuple([(one, other, n, right[0]) for one, other, n, right in _rows(game)])


def table_holds(game, value):
    """Return whether value is the table of the game, with any right key in each row."""
    rows = _rows(game)
    if not isinstance(value, tuple) or len(value) != len(rows):
        return False
    return all([_is_row(game[0], item, row) for item, row in zip(value, rows)])


def all_unlike(steps):
    """Return the unlike_for of each two worlds, in either order; steps are those of all worlds."""
    greatest = _greatest(pairs_behind(steps))
    return {(one, other): _number(greatest, one, other) for one in steps for other in steps}


def pair_of(one, other):
    """Return the pair of two worlds, the lesser one first, or None if they are the same."""
    if one == other:
        return None
    return (min(one, other), max(one, other))


def pairs_behind(steps):
    """Return for each pair, in ascending order, the pairs behind a step by key."""
    behind = {}
    for one in steps:
        for other in steps:
            if one < other:
                behind[(one, other)] = [pair_of(left, right) for left, right in zip(steps[one], steps[other])]
    return behind


def _number(greatest, one, other):
    if one == other:
        return -1
    return greatest[pair_of(one, other)]


def _greatest(behind):
    """Return for each pair the greatest number of keys behind which it can be unlike, or None."""
    greatest = {pair: None for pair in behind}
    # These pairs can be unlike behind n keys, and behind n + 1 if a key leads to one of them.
    # So all stay for ever as soon as none ends.
    lasting = {pair: True for pair in behind}
    n = 0
    while True:
        ended = [pair for pair in lasting if not any([after in lasting for after in behind[pair]])]
        if not ended:
            return greatest
        for pair in ended:
            greatest[pair] = n
            del lasting[pair]
        n = n + 1


def _rows(game):
    """Return (one, other, n, right) for each pair, with the list of what its key may be."""
    behind = pairs_behind(all_steps(game))
    greatest = _greatest(behind)
    rows = []
    for pair in behind:
        n = greatest[pair]
        rows.append((pair[0], pair[1], n, _right_keys(greatest, behind[pair], n)))
    return rows


def _right_keys(greatest, afters, n):
    """Return what a row's key may be; afters are the pairs behind a step, by key."""
    if n == 0:
        return [None]
    wanted = None if n is None else n - 1
    return [key for key, after in enumerate(afters) if after is not None and greatest[after] == wanted]


def _is_row(sizes, value, row):
    if not isinstance(value, tuple) or len(value) != len(row):
        return False
    one, other, n, right = row
    if not _is_this_world(sizes, value[0], one) or not _is_this_world(sizes, value[1], other):
        return False
    return _is_this_number(value[2], n) and any([_is_this_number(value[3], key) for key in right])


def _is_this_world(sizes, value, world):
    # What is equal to a world need not be one: True and 1 are equal.
    return is_world(sizes, value) and value == world


def _is_this_number(value, number):
    """Return whether value is this very integer, or None if number is None."""
    if number is None:
        return value is None
    return is_number(value, number, number)
