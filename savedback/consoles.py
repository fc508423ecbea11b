"""Consoles: a bench by lines of text."""

from savedback.errors import BadDepths, BadPlan, Busy, NoField, NothingToRedo, NothingToUndo, TooManyEdits, Unsafe
from savedback.phrases import expression_text, expression_told, field_told, letter_of, number_told
from savedback.texts import game_text

_UNKNOWN = "unknown command"

_MOST_DIGITS = 40


class Console:
    """Commands for a bench, each a line of text, which is answered by one."""

    def __init__(self, bench):
        self._bench = bench

    def execute(self, line):
        """Do what the line tells, and return the answer."""
        command = _command_told(line)
        if command is None:
            return _UNKNOWN
        # The names are written out, since what is caught is not asked for its class.
        try:
            return self._answer(command)
        except Busy:
            return "error Busy"
        except TooManyEdits:
            return "error TooManyEdits"
        except NothingToUndo:
            return "error NothingToUndo"
        except NothingToRedo:
            return "error NothingToRedo"
        except NoField:
            return "error NoField"
        except BadPlan:
            return "error BadPlan"
        except BadDepths:
            return "error BadDepths"
        except Unsafe:
            return "error Unsafe"

    def _answer(self, command):
        word = command[0]
        if word == "text":
            return game_text(self._bench.game).replace("\n", " | ")
        if word == "plan":
            return _plan_text(self._bench.plan)
        if word == "depths":
            return _depths_text(self._bench.depths())
        if word == "unsafe":
            depth = self._bench.first_unsafe(command[1], None)
            return "safe" if depth is None else str(depth)
        return "ok " + str(self._version_behind(command))

    def _version_behind(self, command):
        """Do the edit, undo or redo, and return the version behind it."""
        word = command[0]
        if word == "keep":
            return self._bench.keep(command[1])
        if word == "leave":
            return self._bench.leave(command[1])
        if word == "make":
            return self._bench.make(command[1], command[2])
        if word == "turn":
            return self._bench.turn(command[1], command[2])
        if word == "undo":
            return self._bench.undo()
        return self._bench.redo()


def _command_told(line):
    """Return the tuple of the command's word and the values behind it, or None."""
    if not isinstance(line, str):
        return None
    if line in ("undo", "redo", "text", "plan", "depths"):
        return (line,)
    word, _, rest = line.partition(" ")
    values = _values_told(word, rest)
    if values is None or None in values:
        return None
    return (word,) + values


def _values_told(word, rest):
    """Return the tuple of what stands behind the word, with None for what tells nothing, or None."""
    if word in ("keep", "leave"):
        return (field_told(rest),)
    if word == "unsafe":
        return (number_told(rest, _MOST_DIGITS),)
    first, _, second = rest.partition(" ")
    if word == "turn":
        return (field_told(first), field_told(second))
    if word == "make":
        return (field_told(first), expression_told(second))
    return None


def _plan_text(plan):
    return ", ".join([letter_of(field) + " " + _way_text(way) for field, way in enumerate(plan)])


def _way_text(way):
    if isinstance(way, tuple):
        return "made " + expression_text(way[1])
    return way


def _depths_text(told):
    if told == ((), 0, 1, ()):
        return "safe"
    early, start, period, late = told
    return f"{_numbers_text(early)}; from {start} by {period}: {_numbers_text(late)}"


def _numbers_text(numbers):
    return ", ".join([str(number) for number in numbers]) or "none"
