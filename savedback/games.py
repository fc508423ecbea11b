"""Games: what one is, and its statements in the order of their places."""

from savedback.bounds import MAX_DEEP, MAX_FIELDS, MAX_KEYS, MAX_NEST
from savedback.bounds import MAX_NOTS, MAX_PLACES, MAX_SIZE, MAX_WORLDS

_MIN_SIZE = 2

# Integers in expressions, factors among them, go from -9 to 9.
_MAX_NUMBER = 9


def is_number(value, low, high):
    """Return whether value is an integer from low to high."""
    # A bool is an int of Python, but no integer here.
    return isinstance(value, int) and not isinstance(value, bool) and low <= value <= high


def is_field(sizes, value):
    """Return whether value is a field of a game with these sizes."""
    return is_number(value, 0, len(sizes) - 1)


def is_world(sizes, value):
    """Return whether value is a world of a game with these sizes."""
    if not isinstance(value, tuple) or len(value) != len(sizes):
        return False
    return all([is_number(item, 0, size - 1) for item, size in zip(value, sizes)])


def all_worlds(sizes):
    """Return the ascending list of the worlds of a game with these sizes."""
    worlds = [()]
    for size in sizes:
        worlds = [world + (value,) for world in worlds for value in range(size)]
    return worlds


def is_expression(sizes, value, room=MAX_DEEP):
    """Return whether value is an expression with at most room expressions in one another."""
    if room == 0:
        return False
    if not isinstance(value, tuple):
        return value == "key" or _is_plain_number(value)
    if len(value) == 2:
        return value[0] == "field" and is_field(sizes, value[1])
    if len(value) != 3:
        return False
    name, left, right = value
    if name == "times":
        return _is_plain_number(left) and is_expression(sizes, right, room - 1)
    if name not in ("plus", "minus"):
        return False
    return is_expression(sizes, left, room - 1) and is_expression(sizes, right, room - 1)


def game_error(value):
    """Return None for a game, otherwise a tuple of the place, or None, and the fault."""
    if not isinstance(value, tuple) or len(value) != 4:
        return (None, "game")
    sizes, keys, first, block = value
    if not _is_sizes(sizes):
        return (None, "sizes")
    if not is_number(keys, 1, MAX_KEYS):
        return (None, "keys")
    if not is_world(sizes, first):
        return (None, "first")
    if not isinstance(block, tuple):
        return (None, "block")
    return _statements_error(value)


def each_statement(game):
    """Yield (place, depth, statement) for each statement, in the order of the places."""
    place = 0
    # The statement that stands first is the last one here, as pop takes that one.
    waiting = [(0, statement) for statement in game[3][::-1]]
    while waiting:
        depth, statement = waiting.pop()
        yield (place, depth, statement)
        place = place + 1
        if statement[0] == "if":
            inner = statement[2] + statement[3]
            waiting.extend([(depth + 1, each) for each in inner[::-1]])


def _statements_error(value):
    """Return the first fault of the statements, or None; value is a game but for these."""
    count = 0
    # The walk opens a statement only when it is asked for the next one. So no statement
    # is opened that is at fault, and none at a greater depth than one beyond the bound.
    for place, depth, statement in each_statement(value):
        if depth > MAX_NEST:
            return (place, "nest")
        if not _is_statement(value[0], statement):
            return (place, "statement")
        count = place + 1
    if count > MAX_PLACES:
        return (None, "places")
    return None


def _is_sizes(value):
    if not isinstance(value, tuple) or not 1 <= len(value) <= MAX_FIELDS:
        return False
    worlds = 1
    for size in value:
        if not is_number(size, _MIN_SIZE, MAX_SIZE):
            return False
        worlds = worlds * size
    return worlds <= MAX_WORLDS


def _is_plain_number(value):
    return is_number(value, -_MAX_NUMBER, _MAX_NUMBER)


def _is_test(sizes, value, nots=MAX_NOTS):
    """Return whether value is a test with at most this many "not" in one another."""
    if not isinstance(value, tuple):
        return False
    if len(value) == 2:
        return value[0] == "not" and nots > 0 and _is_test(sizes, value[1], nots - 1)
    if len(value) != 3 or value[0] not in ("less", "same"):
        return False
    return is_expression(sizes, value[1]) and is_expression(sizes, value[2])


def _is_statement(sizes, value):
    """Return whether value is a statement, whatever the items of its blocks are."""
    if not isinstance(value, tuple) or len(value) == 0:
        return False
    if value[0] == "set":
        return len(value) == 3 and is_field(sizes, value[1]) and is_expression(sizes, value[2])
    if value[0] == "if":
        return len(value) == 4 and _is_test(sizes, value[1]) and _are_blocks(value[2], value[3])
    return value == ("stop",)


def _are_blocks(yes, no):
    return isinstance(yes, tuple) and isinstance(no, tuple)
