"""Plans: what a world keeps when it is taken back, and tries that tell whether that will do."""

from savedback.games import is_expression
from savedback.steps import value_of, walk


def plan_error(game, value):
    """Return None for a plan of the game, otherwise a tuple of the index, or None, and the fault."""
    sizes = game[0]
    if not isinstance(value, tuple) or len(value) != len(sizes):
        return (None, "plan")
    for index, way in enumerate(value):
        if not _is_way(sizes, way):
            return (index, "way")
    for index, way in enumerate(value):
        if not all([value[field] == "kept" for field in _fields_asked(way)]):
            return (index, "made")
    return None


def taken_back(game, plan, old, now):
    """Return the world that now becomes when it is taken back to old."""
    return tuple([_value_back(game, way, field, old, now) for field, way in enumerate(plan)])


def tried(game, plan, ahead, guessed, keys):
    """Return the worlds (old, now, back, due, got) of a try."""
    old = _behind(game, game[2], ahead)
    now = _behind(game, old, guessed)
    back = taken_back(game, plan, old, now)
    return (old, now, back, _behind(game, old, keys), _behind(game, back, keys))


def _behind(game, world, keys):
    return walk(game, world, keys)[-1]


def _value_back(game, way, field, old, now):
    if way == "kept":
        return old[field]
    if way == "stays":
        return now[field]
    return value_of(way[1], old) % game[0][field]


def _is_way(sizes, value):
    if not isinstance(value, tuple):
        return value in ("kept", "stays")
    if len(value) != 2 or value[0] != "made" or not is_expression(sizes, value[1]):
        return False
    return "key" not in _leaves(value[1])


def _fields_asked(way):
    """Return the fields that stand in the expression of a way, none if it has no expression."""
    if not isinstance(way, tuple):
        return []
    return [leaf[1] for leaf in _leaves(way[1]) if isinstance(leaf, tuple)]


def _leaves(expression):
    """Return the integers, fields and "key" that stand in an expression, factors too."""
    if not isinstance(expression, tuple) or expression[0] == "field":
        return [expression]
    return [leaf for inner in expression[1:] for leaf in _leaves(inner)]
