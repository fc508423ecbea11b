"""Edits of a plan: the tuples that tell them, and what they make of a plan."""

from savedback.bounds import BATCH
from savedback.errors import BadEdit, BadEdits, BadPlan, NoField
from savedback.games import is_field
from savedback.plans import plan_error

# How many values stand behind the name of an edit.
_VALUES = {"keep": 1, "leave": 1, "make": 2, "turn": 2}


def checked_field(game, value):
    """Return the value if it is a field of the game, otherwise raise NoField."""
    if not is_field(game[0], value):
        raise NoField(value)
    return value


def items_of(edits):
    """Return the tuple of the edits of an attempt, or raise BadEdits or BadEdit."""
    if not isinstance(edits, (list, tuple)) or len(edits) > BATCH:
        raise BadEdits()
    items = tuple(edits)
    for index, item in enumerate(items):
        if not _is_edit(item):
            raise BadEdit(index)
    return items


def plan_behind(game, plan, edit):
    """Return the plan behind the edit, or raise NoField or BadPlan."""
    ways = list(plan)
    field = checked_field(game, edit[1])
    if edit[0] == "keep":
        ways[field] = "kept"
    elif edit[0] == "leave":
        ways[field] = "stays"
    elif edit[0] == "make":
        ways[field] = ("made", edit[2])
    else:
        other = checked_field(game, edit[2])
        ways[field], ways[other] = ways[other], ways[field]
    error = plan_error(game, tuple(ways))
    if error is not None:
        raise BadPlan(error)
    return tuple(ways)


def _is_edit(value):
    if not isinstance(value, tuple) or len(value) == 0 or not isinstance(value[0], str):
        return False
    return value[0] in _VALUES and len(value) == 1 + _VALUES[value[0]]
