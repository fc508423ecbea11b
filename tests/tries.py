"""Games with depths of their own, and tries that are followed in another way than the program's."""

import itertools

from savedback.plans import tried
from savedback.steps import way_to
from tests.samples import python_steps, value_back, worlds_of

F0, F1, F2, F3 = ("field", 0), ("field", 1), ("field", 2), ("field", 3)

# Field 1 counts fastest, field 0 slower.
NEXT = (("set", 1, ("plus", F1, 1)), ("if", ("same", F1, 0), (("set", 0, ("plus", F0, 1)),), ()))


def when(test, *yes):
    return ("if", test, yes, ())


# As many worlds as told, which follow one another round and round.
ROUNDS = {size: ((size,), 1, (0,), (("set", 0, ("plus", F0, 1)),)) for size in range(2, 7)}
ROUNDS[12] = ((2, 6), 1, (0, 0), NEXT)
ROUNDS[24] = ((4, 6), 1, (0, 0), NEXT)

# Key 0 counts down, key 1 sets the greatest number.
LEAP = (
    (4,), 2, (0,),
    (("if", ("same", "key", 1), (("set", 0, 3),), (when(("less", 0, F0), ("set", 0, ("minus", F0, 1))),)),),
)

# The first world leads into a round of five others.
TAIL = ((6,), 1, (0,), (("set", 0, ("plus", F0, 1)), when(("same", F0, 0), ("set", 0, 1))))

# Key 2 sets field 0. What is unlike in it stays so only along 0, 0 and 1, 1.
LOCK = (
    (2, 3), 3, (0, 0),
    (
        when(("same", "key", 2), ("set", 0, 1), ("set", 1, 0), ("stop",)),
        when(("same", F1, 0), ("set", 1, ("plus", "key", 1)), ("stop",)),
        when(("not", ("same", F1, ("plus", "key", 1))), ("set", 0, 0)),
        ("set", 1, 0),
    ),
)

# Seven worlds are counted down; key 1 sets the greatest one.
DROP = (
    (2, 4), 2, (0, 0),
    (
        (
            "if", ("same", "key", 1),
            (("set", 0, 1), ("set", 1, 2)),
            (
                (
                    "if", ("less", 0, F1),
                    (("set", 1, ("minus", F1, 1)),),
                    (when(("less", 0, F0), ("set", 0, 0), ("set", 1, 3)),),
                ),
            ),
        ),
    ),
)

# Field 0 is counted down and set by key 1, field 1 turns.
DROP_AND_TURN = (
    (4, 2), 2, (0, 0),
    (
        (
            "if", ("same", "key", 1),
            (("set", 0, 3),),
            (when(("less", 0, F0), ("set", 0, ("minus", F0, 1))),),
        ),
        ("set", 1, ("plus", F1, 1)),
    ),
)

# The first key chooses among turns of 5, 6 and 4 worlds, which come together after 60 keys.
THREE_TURNS = (
    (4, 6), 3, (0, 0),
    (
        when(("same", F0, 0), ("set", 0, ("plus", "key", 1)), ("set", 1, 0), ("stop",)),
        ("set", 1, ("plus", F1, 1)),
        when(("same", F0, 1), when(("same", F1, 5), ("set", 1, 0))),
        when(("same", F0, 3), when(("same", F1, 4), ("set", 1, 0))),
    ),
)

# A round of 24 worlds; key 1 leaves the last one out. So all are met behind so many keys only late.
SKIP = ((4, 6), 2, (0, 0), NEXT + (when(("same", "key", 1), when(("same", F0, 3), when(("same", F1, 5), ("set", 0, 0), ("set", 1, 0)))),))


def gaps(size):
    """Field 2 goes round by 6 or, by key 1, by size; field 1 tells when it is 0, and field 0 is 0 at first.

    Whoever is taken back to the first world with a wrong field 1 stays there. So the depths at
    which that fails are those of the rounds' sums.
    """
    return (
        (2, 2, 6), 2, (0, 0, 0),
        (
            when(("same", F0, 0), when(("same", F1, 1), ("stop",)), ("set", 0, 1)),
            ("set", 2, ("plus", F2, 1)),
            when(("same", "key", 1), when(("same", F2, size), ("set", 2, 0))),
            ("set", 1, 0),
            when(("same", F2, 0), ("set", 1, 1)),
        ),
    )


# Twelve worlds follow one another; in the last one key 1 turns field 2.
LAMP = (
    (2, 6, 2), 2, (0, 0, 0),
    (
        when(("same", F0, 1), when(("same", F1, 5), when(("same", "key", 1), ("set", 2, ("minus", 1, F2))), ("stop",))),
    ) + NEXT,
)

# Field 1 is the key, and key 1 turns field 0.
BY_KEYS = ((2, 2), 2, (0, 0), (("set", 1, "key"), when(("same", "key", 1), ("set", 0, ("minus", 1, F0)))))

# World (1,) is not reached.
NEVER = ((3,), 2, (0,), (when(("same", F0, 0), ("set", 0, ("times", 2, "key"))),))

OWN_GAMES = (
    tuple(ROUNDS.values())
    + (LEAP, TAIL, LOCK, DROP, DROP_AND_TURN, THREE_TURNS, SKIP, gaps(5), gaps(4), gaps(3), LAMP, BY_KEYS, NEVER)
)


class Tries:
    """What fails at which depth, from sets of worlds and of pairs that are followed key by key."""

    def __init__(self, game, plan):
        self.steps = python_steps(game)
        self.olds = {game[2]}
        waiting = [game[2]]
        while waiting:
            for after in self.steps[waiting.pop()]:
                if after not in self.olds:
                    self.olds.add(after)
                    waiting.append(after)
        self.back = {
            (old, now): tuple(value_back(game, way, field, old, now) for field, way in enumerate(plan))
            for old in self.olds for now in self.olds
        }
        self.failing = []
        self.start = self.follow()
        self.period = len(self.failing) - self.start

    def follow(self):
        """Find for each depth the worlds old that fail, until all recurs; return where it begins to."""
        sets = {old: frozenset([old]) for old in self.olds}
        unlike = {pair for pair in itertools.product(self.steps, repeat=2) if pair[0] != pair[1]}
        seen = {}
        while True:
            state = (tuple(sets.values()), len(unlike))
            if state in seen:
                return seen[state]
            seen[state] = len(self.failing)
            self.failing.append({
                old for old in self.olds if any((old, self.back[(old, now)]) in unlike for now in sets[old])
            })
            # A set is unlike a smaller one of its size only if no pair has left it.
            unlike = {pair for pair in unlike if any(after in unlike for after in zip(*map(self.steps.get, pair)))}
            sets = {old: frozenset(after for now in sets[old] for after in self.steps[now]) for old in sets}

    def failing_at(self, depth):
        """The worlds old from which a try of this depth fails."""
        if depth >= len(self.failing):
            depth = self.start + (depth - self.start) % self.period
        return self.failing[depth]

    def told(self):
        """What depths has to tell: the least start that is right, and then the least period."""
        unsafe = [bool(olds) for olds in self.failing]
        unsafe = unsafe + unsafe[self.start:]
        end = self.start + self.period
        for start in range(self.start + 1):
            for period in range(1, self.period + 1):
                if all(unsafe[depth] == unsafe[depth + period] for depth in range(start, end)):
                    early = tuple(depth for depth in range(start) if unsafe[depth])
                    late = sorted(depth % period for depth in range(start, start + period) if unsafe[depth])
                    return (early, start, period, tuple(late))
        raise AssertionError("a turn is always one")


def rows_of(game, length):
    return list(itertools.product(range(game[1]), repeat=length))


def fails_by_rows(game, plan, depth):
    """Whether a try of this depth fails, by all rows guessed and keys from each world that is reached."""
    rows = rows_of(game, depth)
    ways = [way_to(game, world) for world in worlds_of(game)]
    for ahead, guessed, keys in itertools.product([way for way in ways if way is not None], rows, rows):
        old, now, back, due, got = tried(game, plan, ahead, guessed, keys)
        if due != got:
            return True
    return False
