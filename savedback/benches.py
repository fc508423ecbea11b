"""Benches: a game with a plan of it that is edited, and edits that are undone and redone."""

from savedback.bounds import MAX_EDITS
from savedback.courses import Course, depths_of, first_of
from savedback.edits import checked_field, items_of, plan_behind
from savedback.errors import BadDepths, BadGame, BadPlan, BadWorld, Busy, NoField, NothingToRedo, NothingToUndo
from savedback.errors import NoVersion, Rejected, TooManyEdits, Unsafe
from savedback.games import game_error, is_number, is_world
from savedback.plans import plan_error, taken_back

_MOST_DEPTH = 10 ** 30


class Bench:
    """A game, and a plan of it that is edited."""

    MOST_EDITS = 60

    def __init__(self, game, plan=None):
        error = game_error(game)
        if error is not None:
            raise BadGame(error)
        if plan is None:
            plan = ("kept",) * len(game[0])
        error = plan_error(game, plan)
        if error is not None:
            raise BadPlan(error)
        # A game and a plan are tuples throughout, so nobody can change them later.
        self.game = game
        self.plan = plan
        self._first = plan
        # The edits that stand, and those that were undone, the last one last: each with the
        # plan behind it.
        self._standing = ()
        self._undone = ()
        self._watched = False
        self._course = None

    def __getitem__(self, at):
        return self.plan[checked_field(self.game, at)]

    def __setitem__(self, at, worth):
        self._set_way(at, worth)

    def __iadd__(self, other):
        self.keep(other)
        return self

    def __isub__(self, other):
        self.leave(other)
        return self

    def __iter__(self):
        raise TypeError("a bench is not iterated over")

    def __len__(self):
        return len(self._standing)

    def __str__(self):
        return str(self._summary())

    def __eq__(self, other):
        if not isinstance(other, Bench) or isinstance(other, SafeBench):
            return False
        return self.game == other.game and self.plan == other.plan

    def keep(self, field):
        """Let the field be kept, and return the new version."""
        return self._edit(("keep", field))

    def leave(self, field):
        """Let the field stay, and return the new version."""
        return self._edit(("leave", field))

    def make(self, field, expression):
        """Let the field be made by the expression, and return the new version."""
        return self._edit(("make", field, expression))

    def turn(self, one, other):
        """Exchange the ways of two fields, and return the new version."""
        return self._edit(("turn", one, other))

    def undo(self):
        """Remove the last edit that stands, and return the new version."""
        self._refuse_if_watched()
        if not self._standing:
            raise NothingToUndo()
        self._undone = self._undone + self._standing[-1:]
        self._standing = self._standing[:-1]
        self.plan = self._plan_at(len(self._standing))
        return len(self._standing)

    def redo(self):
        """Put the edit that was undone last in its place again, and return the new version."""
        self._refuse_if_watched()
        if not self._undone:
            raise NothingToRedo()
        self._standing = self._standing + self._undone[-1:]
        self._undone = self._undone[:-1]
        self.plan = self._plan_at(len(self._standing))
        return len(self._standing)

    def attempt(self, edits, *, watch=None):
        """Do several edits as one, as long as watch lets them, and return how many were done."""
        self._refuse_if_watched()
        items = items_of(edits)
        if not items:
            return 0
        self._refuse_if_full()
        plan, standing, undone = self.plan, self._standing, self._undone
        done = None
        try:
            count = self._do_items(items, watch)
            self._refuse_if_unsafe(self.plan)
            done = count
        finally:
            # Whatever was raised, also by watch, nothing of the attempt is left.
            if done is None:
                self.plan, self._standing, self._undone = plan, standing, undone
        return done

    def depths(self):
        """Return what tells the depths at which the plan is not safe."""
        return self._depths_of(self.plan)

    def first_unsafe(self, low, high):
        """Return the least depth from low to high, or from low on, at which the plan is not safe."""
        _refuse_wrong_depths(low, high)
        return first_of(self._depths_of(self.plan), low, high)

    def back(self, old, now):
        """Return the world that now becomes when it is taken back to old."""
        for world in (old, now):
            if not is_world(self.game[0], world):
                raise BadWorld(world)
        return taken_back(self.game, self.plan, old, now)

    def state(self, *, version=None):
        """Return the plan, or that behind so many of the edits that stand."""
        if version is None:
            return self.plan
        if not is_number(version, 0, len(self._standing)):
            raise NoVersion(version)
        return self._plan_at(version)

    def edits(self):
        """Return the edits that stand, the first one first."""
        return tuple([edit for edit, plan in self._standing])

    def _summary(self):
        kept = self.plan.count("kept")
        return f"{len(self.plan)} fields, {kept} kept, {len(self._standing)} edits"

    def _plan_at(self, version):
        return self._first if version == 0 else self._standing[version - 1][1]

    def _depths_of(self, plan):
        # The game stays, so what it tells for all plans is worked out only once.
        if self._course is None:
            self._course = Course(self.game)
        return depths_of(self._course, plan)

    def _set_way(self, field, way):
        if way == "kept":
            self.keep(field)
        elif way == "stays":
            self.leave(field)
        elif isinstance(way, tuple) and len(way) == 2 and way[0] == "made":
            self.make(field, way[1])
        else:
            self._refuse_if_watched()
            self._refuse_if_full()
            raise BadPlan((checked_field(self.game, field), "way"))

    def _edit(self, edit):
        self._refuse_if_watched()
        self._refuse_if_full()
        plan = plan_behind(self.game, self.plan, edit)
        self._refuse_if_unsafe(plan)
        self._put(self._standing, edit, plan)
        return len(self._standing)

    def _put(self, standing, edit, plan):
        """Let the edit be the last one, behind those that stand."""
        self._standing = standing + ((edit, plan),)
        self._undone = ()
        self.plan = plan

    def _do_items(self, items, watch):
        """Do the items until watch ends them, and return how many were done."""
        standing = self._standing
        for index, item in enumerate(items):
            try:
                plan = plan_behind(self.game, self.plan, item)
            except (NoField, BadPlan):
                raise Rejected(index)
            self._put(standing, ("attempt", items[:index + 1]), plan)
            if watch is not None and self._is_ended_by(watch):
                return index + 1
        return len(items)

    def _is_ended_by(self, watch):
        self._watched = True
        try:
            return bool(watch(self))
        finally:
            self._watched = False

    def _refuse_if_watched(self):
        if self._watched:
            raise Busy()

    def _refuse_if_full(self):
        if len(self._standing) >= MAX_EDITS:
            raise TooManyEdits()

    def _refuse_if_unsafe(self, plan):
        """Let any plan stand; a safe bench does not."""


class SafeBench(Bench):
    """A bench whose plan is safe from the depth low to high, or from low on."""

    def __init__(self, game, plan=None, low=0, high=None):
        super().__init__(game, plan)
        _refuse_wrong_depths(low, high)
        self.low = low
        self.high = high
        self._refuse_if_unsafe(self.plan)

    def __getitem__(self, at):
        return self.plan[checked_field(self.game, at)]

    def __setitem__(self, at, worth):
        self._set_way(at, worth)

    def __iadd__(self, other):
        self.keep(other)
        return self

    def __isub__(self, other):
        self.leave(other)
        return self

    def __len__(self):
        return len(self._standing)

    def __str__(self):
        return str(self._summary())

    def __eq__(self, other):
        if not isinstance(other, SafeBench) or self.low != other.low or self.high != other.high:
            return False
        return self.game == other.game and self.plan == other.plan

    def keep(self, field):
        """Let the field be kept, and return the new version, or raise Unsafe."""
        return super().keep(field)

    def leave(self, field):
        """Let the field stay, and return the new version, or raise Unsafe."""
        return super().leave(field)

    def make(self, field, expression):
        """Let the field be made by the expression, and return the new version, or raise Unsafe."""
        return super().make(field, expression)

    def turn(self, one, other):
        """Exchange the ways of two fields, and return the new version, or raise Unsafe."""
        return super().turn(one, other)

    def undo(self):
        """Remove the last edit that stands, and return the new version."""
        return super().undo()

    def redo(self):
        """Put the edit that was undone last in its place again, and return the new version."""
        return super().redo()

    def attempt(self, edits, *, watch=None):
        """Do several edits as one; only the plan behind the last one that is done has to be safe."""
        return super().attempt(edits, watch=watch)

    def depths(self):
        """Return what tells the depths at which the plan is not safe."""
        return super().depths()

    def first_unsafe(self, low, high):
        """Return the least depth from low to high, or from low on, at which the plan is not safe."""
        return super().first_unsafe(low, high)

    def back(self, old, now):
        """Return the world that now becomes when it is taken back to old."""
        return super().back(old, now)

    def state(self, *, version=None):
        """Return the plan, or that behind so many of the edits that stand."""
        return super().state(version=version)

    def edits(self):
        """Return the edits that stand, the first one first."""
        return super().edits()

    def _refuse_if_unsafe(self, plan):
        depth = first_of(self._depths_of(plan), self.low, self.high)
        if depth is not None:
            raise Unsafe(depth)


def _refuse_wrong_depths(low, high):
    """Raise BadDepths unless these are a least and a greatest depth, or no greatest one."""
    if not is_number(low, 0, _MOST_DEPTH):
        raise BadDepths()
    if high is not None and not is_number(high, low, _MOST_DEPTH):
        raise BadDepths()
