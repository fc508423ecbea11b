"""Depths: those at which a plan is safe, and tries that fail."""

from savedback.courses import Course, depths_of, failing_sets, first_of
from savedback.plans import taken_back


def depths(game, plan):
    """Return (early, start, period, late), which tells all depths at which the plan is not safe."""
    return depths_of(Course(game), plan)


def is_safe(game, plan, depth):
    """Return whether no try of this depth fails."""
    return is_safe_within(game, plan, depth, depth)


def is_safe_within(game, plan, low, high):
    """Return whether the plan is safe from low to high, or from low on if high is None."""
    return first_of(depths(game, plan), low, high) is None


def failing(game, plan, depth):
    """Return (ahead, guessed, keys) of a try that fails, with the fewest keys ahead, or None."""
    course = Course(game)
    sets = failing_sets(course, plan)
    wrong = sets[min(depth, len(sets) - 1)]
    # The ways stand in their order, so the first world that fails has the fewest keys ahead.
    for old in course.ways:
        common = course.behind(old, depth) & wrong[old]
        if common:
            now = [world for world in course.ways if course.bits[world] & common][0]
            back = taken_back(game, plan, old, now)
            guessed = _keys_between(course, old, now, depth)
            return (course.ways[old], guessed, _keys_unlike(course, old, back, depth))
    return None


def _keys_between(course, world, end, depth):
    """Return a row of depth keys by which the world comes to the end."""
    keys = ()
    for left in reversed(range(depth)):
        afters = course.steps[world]
        right = [key for key, after in enumerate(afters) if course.behind(after, left) & course.bits[end]]
        keys = keys + (right[0],)
        world = afters[right[0]]
    return keys


def _keys_unlike(course, one, other, depth):
    """Return a row of depth keys behind which the two worlds are unlike."""
    keys = ()
    for left in reversed(range(depth)):
        afters = list(zip(course.steps[one], course.steps[other]))
        right = [key for key, pair in enumerate(afters) if course.can_be_unlike(pair, left)]
        keys = keys + (right[0],)
        one, other = afters[right[0]]
    return keys
