"""Counting: how many tries fail, and tries whose rows have a beginning in common."""

from savedback.courses import Course, joined
from savedback.pairs import pair_of, pairs_behind
from savedback.plans import taken_back
from savedback.steps import all_steps


def failures(game, plan, old, depth):
    """Return for how many pairs (guessed, keys) of rows with depth keys due and got are unlike."""
    steps = all_steps(game)
    guessed = _rows_between(steps, old, depth)
    parting = _rows_parting(steps, depth)
    return sum([guessed[now] * parting[pair_of(old, taken_back(game, plan, old, now))] for now in guessed])


def is_safe_shared(game, plan, same, rest):
    """Return whether due and got are the same in each try with a shared beginning."""
    course = Course(game)
    places = {}
    for old in course.ways:
        for back in course.steps:
            places[(old, back)] = 1 << len(places)
    begun = _sets_begun(course.steps, places, same)
    unlike = _unlike_sets(course, places, rest)
    for old in course.ways:
        for fork in course.ways:
            for back in _worlds_back(course, plan, old, course.behind(fork, rest)):
                if begun[(old, back)] & unlike[fork]:
                    return False
    return True


def _rows_between(steps, world, depth):
    """Return for each world how many rows of depth keys lead to it; those without any are left out."""
    rows = {world: 1}
    for _ in range(depth):
        found = {}
        for each in rows:
            for after in steps[each]:
                found[after] = found.get(after, 0) + rows[each]
        rows = found
    return rows


def _rows_parting(steps, depth):
    """Return for each pair behind how many rows of depth keys it is unlike; None is no pair."""
    behind = pairs_behind(steps)
    rows = {pair: 1 for pair in behind}
    rows[None] = 0
    for _ in range(depth):
        rows = {pair: sum([rows[after] for after in behind[pair]]) for pair in behind}
        rows[None] = 0
    return rows


def _sets_begun(steps, places, same):
    """Return for each two worlds, in order, the set of those behind so many keys."""
    behind = {pair: list(zip(steps[pair[0]], steps[pair[1]])) for pair in places}
    sets = places
    for _ in range(same):
        sets = joined(behind, sets)
    return sets


def _unlike_sets(course, places, rest):
    """Return for each world the set of the pairs that it begins and that can be unlike so long."""
    sets = {world: 0 for world in course.ways}
    for pair in places:
        if course.can_be_unlike(pair, rest):
            sets[pair[0]] = sets[pair[0]] | places[pair]
    return sets


def _worlds_back(course, plan, old, guessed):
    """Return the worlds that those of the set become when they are taken back to old."""
    worlds = [now for now in course.ways if course.bits[now] & guessed]
    return [taken_back(course.game, plan, old, now) for now in worlds]
