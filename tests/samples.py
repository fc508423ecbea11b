"""What several tests share: games, values that are none of anything, and checks of a call."""

import copy
import itertools
import unittest

EXAMPLE = (
    (2, 3), 2, (0, 0),
    (
        ("set", 1, ("plus", ("field", 1), "key")),
        ("if", ("same", "key", 1), (("set", 0, ("minus", 1, ("field", 0))),), ()),
    ),
)

# Field 0 is told by field 1, which counts.
COUNT = (
    (2, 4), 1, (0, 0),
    (("set", 1, ("plus", ("field", 1), 1)), ("set", 0, ("field", 1))),
)

# Key 0 counts down to 0, key 1 goes there at once.
FALL = (
    (4,), 2, (0,),
    (
        (
            "if", ("same", "key", 1),
            (("set", 0, 0),),
            (("if", ("less", 0, ("field", 0)), (("set", 0, ("minus", ("field", 0), 1)),), ()),),
        ),
    ),
)

TURN = ((2,), 1, (0,), (("set", 0, ("minus", 1, ("field", 0))),))

STILL = ((2,), 1, (0,), ())

# Each kind of statement, expression and test, with blocks in both blocks.
FULL = (
    (2, 2, 3), 3, (1, 0, 2),
    (
        ("set", 2, ("plus", ("times", -3, ("field", 2)), "key")),
        (
            "if", ("not", ("not", ("less", ("field", 1), ("minus", "key", 1)))),
            (("stop",), ("if", ("same", 1, "key"), (), (("set", 0, 1),))),
            (("set", 1, ("field", 0)),),
        ),
        ("stop",),
    ),
)

# 24 worlds that follow one another, field 1 fastest; keys 1 and 2 move one field alone.
WHEEL = (
    (4, 6), 3, (2, 3),
    (
        (
            "if", ("less", 0, "key"),
            (
                ("if", ("same", "key", 1), (("set", 0, ("plus", ("field", 0), 1)),), ()),
                ("if", ("same", "key", 2), (("set", 1, ("minus", ("field", 1), 1)),), ()),
                ("stop",),
            ),
            (),
        ),
        ("set", 1, ("plus", ("field", 1), 1)),
        ("if", ("same", ("field", 1), 0), (("set", 0, ("plus", ("field", 0), 1)),), ()),
    ),
)

# 24 worlds that follow one another down to (0, 0, 0), where each stays.
SINK = (
    (2, 3, 4), 1, (1, 2, 3),
    (
        ("if", ("less", 0, ("field", 2)), (("set", 2, ("minus", ("field", 2), 1)), ("stop",)), ()),
        ("if", ("less", 0, ("field", 1)), (("set", 1, ("minus", ("field", 1), 1)), ("set", 2, 3), ("stop",)), ()),
        ("if", ("less", 0, ("field", 0)), (("set", 0, 0), ("set", 1, 2), ("set", 2, 3)), ()),
    ),
)

# Four fields, of which key 1 exchanges two by way of the third; 24 worlds, not all reached.
SWAP = (
    (2, 2, 2, 3), 2, (0, 1, 0, 2),
    (
        (
            "if", ("same", "key", 1),
            (("set", 2, ("field", 0)), ("set", 0, ("field", 1)), ("set", 1, ("field", 2))),
            (("set", 3, ("times", 2, ("plus", ("field", 3), ("field", 0)))),),
        ),
    ),
)

GAMES = (EXAMPLE, COUNT, FALL, TURN, STILL, FULL, WHEEL, SINK, SWAP)

# What no statement, expression, test, number or tuple of numbers is.
ODD_VALUES = (
    None, True, False, 10 ** 59, -(10 ** 59), "", "set", "stop", "keys", "two\nlines", (), (None,), ((),),
    [], ["key"], {}, {"key": ()}, {0: "set"}, ("field",), ("field", 9), ("set",), ("if",), ("stop", 0),
)

SIZES = ((2,), (3,), (6,), (2, 2), (3, 2), (2, 5), (4, 6), (2, 3, 4), (2, 2, 2), (3, 2, 2), (2, 2, 2, 3), (2, 2, 2, 2))


class Numbers:
    """Numbers that look drawn, the same ones in each run."""

    def __init__(self, seed):
        self.state = seed * 2654435761 + 12345

    def below(self, count):
        self.state = (self.state * 6364136223846793005 + 1442695040888963407) % 2 ** 64
        return (self.state >> 33) % count

    def one_of(self, items):
        return items[self.below(len(items))]


def drawn_expression(numbers, sizes, room=3, key=True):
    """An expression with at most room in one another, with "key" only if key is true."""
    kind = numbers.below(7 if room > 1 else 4)
    if kind == 0 and key:
        return "key"
    if kind < 2:
        return numbers.below(19) - 9
    if kind < 4:
        return ("field", numbers.below(len(sizes)))
    right = drawn_expression(numbers, sizes, room - 1, key)
    if kind == 4:
        return ("times", numbers.below(19) - 9, right)
    return (("plus", "minus")[kind - 5], drawn_expression(numbers, sizes, room - 1, key), right)


def drawn_test(numbers, sizes, nots=2):
    if nots and numbers.below(4) == 0:
        return ("not", drawn_test(numbers, sizes, nots - 1))
    return (numbers.one_of(("less", "same")), drawn_expression(numbers, sizes), drawn_expression(numbers, sizes))


def drawn_block(numbers, sizes, most, nest=0):
    """A block with at most this many statements, those in its blocks counted."""
    block, room = [], most
    while room and numbers.below(5 if nest else 20):
        kind = numbers.below(9)
        room -= 1
        if kind == 0:
            block.append(("stop",))
        elif kind < 5 and nest < 3:
            yes = drawn_block(numbers, sizes, room // 2, nest + 1)
            no = drawn_block(numbers, sizes, room // 3, nest + 1)
            block.append(("if", drawn_test(numbers, sizes), yes, no))
            room -= room // 2 + room // 3
        else:
            block.append(("set", numbers.below(len(sizes)), drawn_expression(numbers, sizes)))
    return tuple(block)


def drawn_game(seed):
    numbers = Numbers(seed)
    sizes = numbers.one_of(SIZES)
    first = tuple(numbers.below(size) for size in sizes)
    return (sizes, 1 + numbers.below(3), first, drawn_block(numbers, sizes, 16))


def drawn_games(count):
    return [drawn_game(seed) for seed in range(count)]


def made(expression):
    return ("made", expression)


def drawn_plan(numbers, game):
    """A plan in which expressions have only integers and the fields that it keeps."""
    kinds = [numbers.one_of(("kept", "stays", "made")) for _ in game[0]]
    kept = [field for field, kind in enumerate(kinds) if kind == "kept"]
    return tuple(made(drawn_made(numbers, kept)) if kind == "made" else kind for kind in kinds)


def drawn_made(numbers, kept):
    expression = drawn_expression(numbers, kept or (0,), key=False)
    for path, part in list(parts(expression)):
        if isinstance(part, tuple) and part[0] == "field":
            expression = replaced(expression, path, ("field", numbers.one_of(kept)) if kept else 7)
    return expression


def drawn_row(numbers, game, length):
    return tuple(numbers.below(game[1]) for _ in range(length))


def value_back(game, way, field, old, now):
    if way == "kept":
        return old[field]
    if way == "stays":
        return now[field]
    return eval(python_of(way[1]), {"v": old}) % game[0][field]


def worlds_of(game):
    return list(itertools.product(*map(range, game[0])))


def python_of(expression):
    if isinstance(expression, int):
        return f"({expression})"
    if expression == "key":
        return "key"
    if expression[0] == "field":
        return f"v[{expression[1]}]"
    if expression[0] == "times":
        return f"({expression[1]} * {python_of(expression[2])})"
    sign = {"plus": "+", "minus": "-"}[expression[0]]
    return f"({python_of(expression[1])} {sign} {python_of(expression[2])})"


def python_test(test):
    if test[0] == "not":
        return f"(not {python_test(test[1])})"
    sign = {"less": "<", "same": "=="}[test[0]]
    return f"({python_of(test[1])} {sign} {python_of(test[2])})"


def python_lines(sizes, block, indent):
    lines = [indent + "pass"]
    for statement in block:
        if statement[0] == "stop":
            lines.append(indent + "return tuple(v)")
        elif statement[0] == "set":
            _, field, expression = statement
            lines.append(f"{indent}v[{field}] = {python_of(expression)} % {sizes[field]}")
        else:
            _, test, yes, no = statement
            lines.append(f"{indent}if {python_test(test)}:")
            lines.extend(python_lines(sizes, yes, indent + "    "))
            lines.append(f"{indent}else:")
            lines.extend(python_lines(sizes, no, indent + "    "))
    return lines


def python_step(game):
    """The step of a game as a function that Python itself has made of the block's text."""
    lines = ["def step(v, key):", "    v = list(v)"]
    lines += python_lines(game[0], game[3], "    ") + ["    return tuple(v)"]
    names = {}
    exec("\n".join(lines), names)
    return names["step"]


def python_steps(game):
    """The worlds behind a step by each key, for each world."""
    step = python_step(game)
    return {world: [step(world, key) for key in range(game[1])] for world in worlds_of(game)}


def parts(value, path=()):
    """Each part of a value behind the path to it, the value itself first."""
    yield path, value
    if isinstance(value, tuple):
        for index, item in enumerate(value):
            yield from parts(item, path + (index,))


def replaced(value, path, part):
    if not path:
        return part
    index = path[0]
    return value[:index] + (replaced(value[index], path[1:], part),) + value[index + 1:]


class CallCase(unittest.TestCase):
    def check_call(self, expected, function, *given):
        """Ask twice, compare as text too, since 0 and False are equal, and look at what was given."""
        before = copy.deepcopy(given)
        first, second = function(*given), function(*given)
        self.assertEqual(repr(first), repr(expected), given)
        self.assertEqual(repr(second), repr(expected), given)
        self.assertEqual(repr(given), repr(before))
