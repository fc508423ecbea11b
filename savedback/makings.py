"""Makings: ways by which a field is made of others, and keys that part two games."""

from savedback.steps import reached, step, value_of


def made_of(game, field, lot):
    """Return the first way by which the field is made as it is in each world that is reached, or None."""
    worlds = reached(game)
    size = game[0][field]
    for expression in _expressions(lot, size):
        if all([value_of(expression, world) % size == world[field] for world in worlds]):
            return ("made", expression)
    return None


def unlike_games(one, other):
    """Return the first one of the shortest rows of keys that lead to unlike worlds, or None."""
    ways = {one[2]: ()}
    newest = [one[2]]
    # As long as no row parts the games, a row leads to one world in both. The worlds of a
    # round stand in the order of their ways, so the first row that is found is the first one.
    while newest:
        found = []
        for world in newest:
            for key in range(one[1]):
                keys = ways[world] + (key,)
                after = step(one, world, key)
                if after != step(other, world, key):
                    return keys
                if after not in ways:
                    ways[after] = keys
                    found.append(after)
        newest = found
    return None


def _expressions(lot, size):
    """Return the expressions by which a field of this size may be made, in their order."""
    sums = [
        ("plus", ("times", factor, ("field", other)), number)
        for other in lot for factor in range(1, size) for number in range(size)
    ]
    return list(range(size)) + sums
