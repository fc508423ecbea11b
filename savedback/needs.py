"""Needs: the lots of fields that have to be kept, and what they cost."""

from savedback.courses import Course, depths_of, first_of


def plan_of(game, lot):
    """Return the plan that keeps the fields of the lot, while all others stay."""
    return tuple(["kept" if field in lot else "stays" for field in range(len(game[0]))])


def needed(game, low, high):
    """Return the lots whose plans are safe within low and high, while no part of one has such a plan."""
    lots = _safe_lots(game, low, high)
    return tuple([lot for lot in lots if not any([_is_part(other, lot) for other in lots])])


def cheapest(game, costs, low, high):
    """Return (cost, lot) for the first of the lots with the least cost that will do."""
    return min([(sum([costs[field] for field in lot]), lot) for lot in _safe_lots(game, low, high)])


def _safe_lots(game, low, high):
    """Return the lots whose plans are safe within low and high, in ascending order."""
    course = Course(game)
    return [lot for lot in _all_lots(len(game[0])) if _is_safe_lot(course, lot, low, high)]


def _is_safe_lot(course, lot, low, high):
    return first_of(depths_of(course, plan_of(course.game, lot)), low, high) is None


def _all_lots(fields):
    lots = [()]
    for field in range(fields):
        lots = lots + [lot + (field,) for lot in lots]
    return sorted(lots)


def _is_part(part, lot):
    """Return whether part has some of the fields of the lot, perhaps none, but not all."""
    return len(part) < len(lot) and all([field in lot for field in part])
