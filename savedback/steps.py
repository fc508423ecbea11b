"""Steps: worlds that change by keys, and the worlds to which the first one comes."""

from savedback.games import all_worlds


def step(game, world, key):
    """Return the world behind the step."""
    sizes = game[0]
    values = list(world)
    # All that is still to be executed, of the blocks around a statement too. The next one
    # is the last one here, as pop takes that one.
    waiting = list(game[3][::-1])
    while waiting:
        statement = waiting.pop()
        if statement[0] == "stop":
            break
        if statement[0] == "set":
            field = statement[1]
            values[field] = value_of(statement[2], values, key) % sizes[field]
        else:
            chosen = statement[2] if _is_true(statement[1], values, key) else statement[3]
            waiting.extend(chosen[::-1])
    return tuple(values)


def walk(game, world, keys):
    """Return the tuple of the worlds along a row of keys, the world itself first."""
    worlds = [world]
    for key in keys:
        worlds.append(step(game, worlds[-1], key))
    return tuple(worlds)


def reached(game):
    """Return the ascending tuple of the worlds that are reached."""
    return tuple(sorted(all_ways(game)))


def way_to(game, world):
    """Return the first one of the shortest rows of keys to the world, or None."""
    return all_ways(game).get(world)


def told_by(game, field, others):
    """Return the pairs that tell the field by the others in what is reached, or None."""
    told = {}
    for world in all_ways(game):
        values = tuple([world[other] for other in others])
        if told.setdefault(values, world[field]) != world[field]:
            return None
    return tuple(sorted(told.items()))


def all_ways(game):
    """Return the way_to of each world that is reached, in the order of their ways."""
    ways = {game[2]: ()}
    newest = [game[2]]
    # The worlds of a round stand in the order of their ways, which have the same length.
    # So the first way that is found to a world is the one that is asked for.
    while newest:
        found = []
        for world in newest:
            for key in range(game[1]):
                after = step(game, world, key)
                if after not in ways:
                    ways[after] = ways[world] + (key,)
                    found.append(after)
        newest = found
    return ways


def all_steps(game):
    """Return the worlds behind the steps, by key, for each world, reached or not."""
    rows = {}
    for world in all_worlds(game[0]):
        rows[world] = [step(game, world, key) for key in range(game[1])]
    return rows


def value_of(expression, values, key=None):
    """Return the value of an expression; key is asked only where "key" stands in it."""
    if expression == "key":
        return key
    if not isinstance(expression, tuple):
        return expression
    name = expression[0]
    if name == "field":
        return values[expression[1]]
    right = value_of(expression[-1], values, key)
    if name == "times":
        return expression[1] * right
    left = value_of(expression[1], values, key)
    if name == "plus":
        return left + right
    return left - right


def _is_true(test, values, key):
    if test[0] == "not":
        return not _is_true(test[1], values, key)
    left = value_of(test[1], values, key)
    right = value_of(test[2], values, key)
    if test[0] == "less":
        return left < right
    return left == right
