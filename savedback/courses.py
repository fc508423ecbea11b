"""Courses: what a game does behind any number of keys, worked out once for all of its plans."""

from savedback.pairs import all_unlike
from savedback.plans import taken_back
from savedback.steps import all_steps, all_ways


class Course:
    """A game with its steps, ways and unlike worlds, and the worlds behind each number of keys."""

    def __init__(self, game):
        self.game = game
        self.ways = all_ways(game)
        self.steps = all_steps(game)
        self.unlike = all_unlike(self.steps)
        # A set of worlds is an integer here, so that several are joined or compared at once.
        self.bits = {world: 1 << at for at, world in enumerate(self.steps)}
        self.rounds, self.start = _all_rounds(self.steps, self.ways, self.bits)
        self.period = len(self.rounds) - self.start

    def behind(self, world, depth):
        """Return the set of the worlds behind depth keys; world is reached."""
        if depth >= len(self.rounds):
            depth = self.start + (depth - self.start) % self.period
        return self.rounds[depth][world]

    def can_be_unlike(self, pair, depth):
        """Return whether the two worlds can be unlike behind depth keys."""
        n = self.unlike[pair]
        return n is None or n >= depth


def joined(steps, sets):
    """Return for each place of steps the sets of the places behind it, as one."""
    found = {}
    for place in steps:
        found[place] = 0
        for after in steps[place]:
            found[place] = found[place] | sets[after]
    return found


def failing_sets(course, plan):
    """Return for each depth a dict: by old, the set of the worlds now with which a try fails.

    The last one is that of all further depths, too.
    """
    ever = {old: 0 for old in course.ways}
    ending = {}
    for old in course.ways:
        for now in course.ways:
            n = course.unlike[(old, taken_back(course.game, plan, old, now))]
            if n is None:
                ever[old] = ever[old] | course.bits[now]
            elif n >= 0:
                sets = ending.setdefault(n, {})
                sets[old] = sets.get(old, 0) | course.bits[now]
    rows = [ever]
    # What is unlike behind n keys was so behind fewer ones.
    for n in reversed(range(max(list(ending), default=-1) + 1)):
        sets = ending.get(n, {})
        rows.append({old: rows[-1][old] | sets.get(old, 0) for old in ever})
    return rows[::-1]


def depths_of(course, plan):
    """Return (early, start, period, late) for the depths at which the plan is not safe."""
    sets = failing_sets(course, plan)
    last = len(sets) - 1
    start = max(course.start, last)
    unsafe = [_fails(course, sets[min(depth, last)], depth) for depth in range(start + course.period)]
    return _shortest(unsafe, start, course.period)


def first_of(told, low, high):
    """Return the first depth from low to high, or from low on, that the tuple tells, or None."""
    early, start, period, late = told
    found = [depth for depth in early if depth >= low]
    base = max(low, start)
    found.extend([base + (rest - base) % period for rest in late])
    first = min(found, default=None)
    if first is None or (high is not None and first > high):
        return None
    return first


def _all_rounds(steps, ways, bits):
    """Return the sets behind 0, 1, 2 .. keys, by world, until they recur, and where they begin to."""
    inner = {world: steps[world] for world in ways}
    rounds = []
    seen = {}
    sets = {world: bits[world] for world in ways}
    # The sets of a round follow from those of the round ahead alone.
    while tuple(sets.values()) not in seen:
        seen[tuple(sets.values())] = len(rounds)
        rounds.append(sets)
        sets = joined(inner, sets)
    return rounds, seen[tuple(sets.values())]


def _fails(course, sets, depth):
    return any([course.behind(old, depth) & sets[old] for old in sets])


def _shortest(unsafe, start, period):
    """Return what tells the depths; from start on they recur, and unsafe holds one turn of that."""
    turn = unsafe[start:]
    # The least turn divides each other one.
    least = min([size for size in range(1, period + 1) if turn[size:] + turn[:size] == turn])
    while start > 0 and unsafe[start - 1] == unsafe[start - 1 + least]:
        start = start - 1
    early = tuple([depth for depth in range(start) if unsafe[depth]])
    late = tuple(sorted([depth % least for depth in range(start, start + least) if unsafe[depth]]))
    return (early, start, least, late)
