"""Benches: edits one by one and several at once, undo and redo, and what a bench tells."""

import copy
import itertools
import unittest

from savedback import errors
from savedback.benches import Bench, SafeBench
from savedback.bounds import BATCH, MAX_EDITS
from savedback.depths import depths, is_safe
from savedback.games import game_error
from savedback.plans import plan_error, taken_back
from tests.samples import COUNT, EXAMPLE, FALL, FULL, GAMES, ODD_VALUES, SINK, STILL, SWAP, TURN, WHEEL
from tests.samples import Numbers, drawn_games, drawn_plan, made, worlds_of
from tests.tries import BY_KEYS, DROP, DROP_AND_TURN, F0, F1, F2, LAMP, LEAP, ROUNDS, THREE_TURNS, gaps

END = 10 ** 30

# Behind one key all that was taken back wrong is right again, so all plans are safe from 1 on.
HEAL = ((2, 2, 3), 2, (0, 0, 0), (("set", 0, "key"), ("set", 1, 0), ("set", 2, 1)))

FIELDS = (0, 1, 2)

NO_FIELDS = ODD_VALUES + (3, 4, -1, -2, "a", "0", (0,), [0], {0: 0}, slice(0, 1), 10 ** 59, 0.0)

OTHER_VALUES = ODD_VALUES + (0, 1, -1, 10 ** 30, "kept", "stays", ("made", 1), [1, [2]], {"a": (1,)}, ("kept",) * 3)


def plain_bench(plan=None):
    return Bench(HEAL, plan)


def safe_bench(plan=None):
    return SafeBench(HEAL, plan, 1)


MAKERS = (plain_bench, safe_bench)


class Odd(Exception):
    """An error that the package does not know."""


class Asked:
    """A value that counts as told, or raises what it is told to, and counts how often it is asked."""

    def __init__(self, truth):
        self.truth = truth
        self.count = 0

    def __bool__(self):
        self.count += 1
        if isinstance(self.truth, bool):
            return self.truth
        raise self.truth


def redone(bench):
    """The plans and edits of all redos that are left, found on a copy."""
    other, told = copy.deepcopy(bench), []
    while True:
        try:
            other.redo()
        except errors.NothingToRedo:
            return told
        told.append((other.plan, other.edits()))


def all_of(bench):
    """All that a bench tells of its edits, those that were undone too."""
    states = [bench.state(version=version) for version in range(len(bench) + 1)]
    return repr((bench.game, bench.plan, bench.edits(), len(bench), str(bench), bench.state(), states, redone(bench)))


class BenchCase(unittest.TestCase):
    def check_raises(self, expected, function, *given, **named):
        """Look at the class of what is raised, and at its attributes."""
        with self.assertRaises(type(expected)) as caught:
            function(*given, **named)
        self.assertIs(type(caught.exception), type(expected))
        self.assertEqual(repr(vars(caught.exception)), repr(vars(expected)))
        return caught.exception

    def check_refused(self, bench, expected, function, *given, **named):
        """What is refused changes nothing."""
        before, given_before = all_of(bench), repr((given, named))
        error = self.check_raises(expected, function, *given, **named)
        self.assertEqual(all_of(bench), before)
        self.assertEqual(repr((given, named)), given_before)
        return error

    def check_told(self, expected, told):
        self.assertEqual(repr(told), repr(expected))


class Examples(BenchCase):
    GAME = ((2, 2), 2, (0, 0), (("set", 1, "key"), ("if", ("same", "key", 1), (("set", 0, ("minus", 1, ("field", 0))),), ())))

    def test_edits(self):
        bench = Bench(((2, 2), 2, (0, 0), (("set", 1, "key"), ("if", ("same", "key", 1), (("set", 0, ("minus", 1, ("field", 0))),), ()))))
        told = [bench.plan, bench.leave(1), bench.depths(), bench.leave(0), bench.depths(), bench.first_unsafe(0, None), bench.turn(0, 1), bench.keep(0), bench.make(1, ("field", 0)), bench.plan]
        self.assertEqual(repr(told), "[('kept', 'kept'), 1, ((), 0, 1, ()), 2, ((), 1, 1, (0,)), 1, 3, 4, 5, ('kept', ('made', ('field', 0)))]")

    def test_undo_and_redo(self):
        bench = Bench(((2, 2), 1, (0, 0), ()), ("stays", "kept"))
        told = [bench.turn(0, 1), bench.plan, bench.undo(), bench.plan, bench.redo(), bench.keep(1), bench.edits()]
        self.assertEqual(repr(told), "[1, ('kept', 'stays'), 0, ('stays', 'kept'), 1, 2, (('turn', 0, 1), ('keep', 1))]")

    def test_attempt(self):
        bench = Bench(((2, 2), 1, (0, 0), ()))
        told = [bench.attempt([("leave", 0), ("leave", 1), ("keep", 0)], watch=lambda held: held.plan[1] == "stays"), bench.plan, len(bench), bench.undo(), bench.plan]
        self.assertEqual(repr(told), "[2, ('stays', 'stays'), 1, 0, ('kept', 'kept')]")

    def test_safe_bench(self):
        bench = SafeBench(((2, 2), 2, (0, 0), (("set", 1, "key"), ("if", ("same", "key", 1), (("set", 0, ("minus", 1, ("field", 0))),), ()))), None, 1)
        told = [bench.attempt([("leave", 0), ("leave", 1), ("keep", 0)]), bench.plan, str(bench)]
        self.assertEqual(repr(told), "[3, ('kept', 'stays'), '2 fields, 1 kept, 1 edits']")

    def test_unsafe(self):
        bench = SafeBench(((2, 2), 2, (0, 0), (("set", 1, "key"), ("if", ("same", "key", 1), (("set", 0, ("minus", 1, ("field", 0))),), ()))))
        self.check_raises(errors.Unsafe(1), bench.leave, 0)


class Made(BenchCase):
    def test_all_is_kept_if_no_plan_is_told(self):
        for game in GAMES + tuple(drawn_games(30)):
            for bench in (Bench(game), Bench(game, None), Bench(game, plan=None), SafeBench(game), SafeBench(game, None, 0, None)):
                self.check_told(("kept",) * len(game[0]), bench.plan)
                self.check_told(game, bench.game)
                self.check_told((0, ()), (len(bench), bench.edits()))

    def test_plans(self):
        for game in GAMES:
            numbers = Numbers(9)
            for _ in range(5):
                plan = drawn_plan(numbers, game)
                self.check_told((game, plan), (Bench(game, plan).game, Bench(game, plan).plan))

    def test_no_games(self):
        wrong = ODD_VALUES + (0, "sizes 2", list(STILL), STILL[:3], STILL + ((),), ((2,), 1, (0,), []), ((2,), 1, (0,), (("set", 1, 0),)))
        wrong += (((2,), True, (0,), ()), ([2], 1, (0,), ()), ((2,), 1, (2,), ()), ((2,), 1, (0,), (("stop",),) * 17))
        for game in wrong:
            for plan in (None, ("kept",), "kept", ()):
                self.check_raises(errors.BadGame(game_error(game)), Bench, game, plan)
                self.check_raises(errors.BadGame(game_error(game)), SafeBench, game, plan, -1, True)

    def test_no_plans(self):
        wrong = [value for value in OTHER_VALUES if value is not None] + [
            ("kept", "kept"), ["kept"] * 3, ("kept", "kept", None), ("kept", "Stays", "kept"), (made(F1), "stays", "kept"),
            (made(F0), "kept", "kept"), (made("key"), "kept", "kept"), (made(10), "kept", "kept"), (["made", 1], "kept", "kept"),
        ]
        for plan in wrong:
            if plan_error(HEAL, plan) is not None:
                self.check_raises(errors.BadPlan(plan_error(HEAL, plan)), Bench, HEAL, plan)
                self.check_raises(errors.BadPlan(plan_error(HEAL, plan)), SafeBench, HEAL, plan, 5, 4)

    def test_the_number_of_edits(self):
        for maker in MAKERS:
            self.check_told((60, 60), (maker().MOST_EDITS, Bench.MOST_EDITS))
        self.assertEqual(SafeBench.MOST_EDITS, MAX_EDITS)

    def test_two_benches_share_nothing(self):
        for maker in MAKERS:
            one, other = maker(), maker()
            one.leave(0)
            one.undo()
            self.check_told((("kept",) * 3, 0, []), (other.plan, len(other), redone(other)))


class Edits(BenchCase):
    def test_keep_leave_and_make(self):
        for maker in MAKERS:
            bench = maker()
            for version, (name, given, plan) in enumerate((
                ("leave", (1,), ("kept", "stays", "kept")),
                ("make", (2, ("plus", F0, 1)), ("kept", "stays", made(("plus", F0, 1)))),
                ("make", (1, -9), ("kept", made(-9), made(("plus", F0, 1)))),
                ("keep", (2,), ("kept", made(-9), "kept")),
                ("keep", (1,), ("kept", "kept", "kept")),
                ("make", (0, ("minus", F1, ("times", 2, F2))), (made(("minus", F1, ("times", 2, F2))), "kept", "kept")),
                ("leave", (0,), ("stays", "kept", "kept")),
            ), 1):
                self.check_told(version, getattr(bench, name)(*given))
                self.check_told((plan, version), (bench.plan, len(bench)))
                self.check_told((name,) + given, bench.edits()[-1])

    def test_by_the_names_of_the_arguments(self):
        for maker in MAKERS:
            bench = maker()
            self.assertEqual([bench.leave(field=0), bench.make(field=2, expression=1), bench.turn(one=0, other=1), bench.keep(field=2)], [1, 2, 3, 4])
            self.check_told(("kept", "stays", "kept"), bench.plan)
            self.check_told((("leave", 0), ("make", 2, 1), ("turn", 0, 1), ("keep", 2)), bench.edits())

    def test_turn(self):
        for maker, (one, other) in itertools.product(MAKERS, itertools.product(FIELDS, repeat=2)):
            bench = maker(("kept", "stays", made(1)))
            plan = list(bench.plan)
            plan[one], plan[other] = plan[other], plan[one]
            self.check_told(1, bench.turn(one, other))
            self.check_told((tuple(plan), (("turn", one, other),)), (bench.plan, bench.edits()))

    def test_what_changes_nothing_is_an_edit_all_the_same(self):
        for maker in MAKERS:
            bench = maker(("kept", "stays", made(F0)))
            told = [bench.keep(0), bench.leave(1), bench.make(2, F0), bench.turn(1, 1), bench.turn(2, 2)]
            self.assertEqual(told, [1, 2, 3, 4, 5])
            self.check_told(("kept", "stays", made(F0)), bench.plan)
            bench.undo()
            bench.keep(0)
            self.check_told([], redone(bench))

    def test_no_fields(self):
        for maker, value in itertools.product(MAKERS, NO_FIELDS):
            bench = maker(("kept", "stays", "kept"))
            bench.leave(0)
            bench.undo()
            for function, given in (
                (bench.keep, (value,)), (bench.leave, (value,)), (bench.make, (value, 1)), (bench.make, (value, None)),
                (bench.turn, (value, 0)), (bench.turn, (0, value)), (bench.turn, (value, -1)),
            ):
                error = self.check_refused(bench, errors.NoField(value), function, *given)
                self.assertIs(error.field, value)
            self.check_refused(bench, errors.NoField(7), bench.turn, 7, value)
            self.check_refused(bench, errors.NoField(value), bench.turn, value, 7)

    def test_the_fields_of_the_game(self):
        for game in (TURN, EXAMPLE, FULL, SWAP):
            for bench in (Bench(game), SafeBench(game, None, 0, 0)):
                for field in range(5):
                    if field < len(game[0]):
                        bench.leave(field)
                    else:
                        self.check_refused(bench, errors.NoField(field), bench.leave, field)

    def test_no_plans(self):
        for maker in MAKERS:
            bench = maker(("kept", "stays", "kept"))
            bench.leave(0)
            bench.undo()
            for expression in ODD_VALUES + (10, "a", ("field", 3), ("plus", 1), ("plus", 1, True), "key", ("plus", 1, "key"), [1]):
                self.check_refused(bench, errors.BadPlan((2, "way")), bench.make, 2, expression)
            self.check_refused(bench, errors.BadPlan((2, "made")), bench.make, 2, F1)
            self.check_refused(bench, errors.BadPlan((2, "made")), bench.make, 2, F2)
            self.check_refused(bench, errors.BadPlan((1, "made")), bench.make, 1, ("minus", F0, F1))

    def test_other_fields_that_are_made_of_it(self):
        for maker in MAKERS:
            bench = maker(("kept", made(F0), made(("plus", F0, 1))))
            self.check_refused(bench, errors.BadPlan((1, "made")), bench.leave, 0)
            self.check_refused(bench, errors.BadPlan((1, "made")), bench.make, 0, 1)
            self.check_refused(bench, errors.BadPlan((0, "made")), bench.make, 0, F1)
            self.check_refused(bench, errors.BadPlan((0, "made")), bench.turn, 0, 1)
            self.check_refused(bench, errors.BadPlan((0, "made")), bench.turn, 0, 2)
            bench.turn(1, 2)
            self.check_told(("kept", made(("plus", F0, 1)), made(F0)), bench.plan)
            bench.keep(1)
            bench.keep(2)
            bench.leave(0)
            self.check_told(("stays", "kept", "kept"), bench.plan)

    def test_a_great_value(self):
        deep = 1
        for _ in range(22):
            deep = ("plus", 1, deep)
        for maker, value in itertools.product(MAKERS, (deep, [deep], ("made", deep), {"a": deep}, (1,) * 7000)):
            bench = maker()
            self.check_refused(bench, errors.BadPlan((0, "way")), bench.make, 0, value)
            self.check_refused(bench, errors.NoField(value), bench.keep, value)

    def test_60_edits(self):
        for maker in MAKERS:
            bench = maker()
            for version in range(1, MAX_EDITS + 1):
                self.assertEqual(bench.leave(0) if version % 2 else bench.keep(0), version)
            for function, given in (
                (bench.keep, (0,)), (bench.keep, (9,)), (bench.leave, (None,)), (bench.make, (0, "key")), (bench.make, (True, 1)),
                (bench.turn, (0, 1)), (bench.turn, (0, 9)), (bench.attempt, ([("keep", 0)],)), (bench.attempt, ((("keep", 9),),)),
                (bench.__setitem__, (0, "kept")), (bench.__setitem__, (9, "kept")), (bench.__setitem__, (0, "wrong")),
                (bench.__setitem__, (9, None)), (bench.__setitem__, (0, made(1))), (bench.__iadd__, (0,)), (bench.__isub__, (9,)),
            ):
                self.check_refused(bench, errors.TooManyEdits(), function, *given)
            self.assertEqual(bench.attempt([]), 0)
            self.assertEqual(bench.attempt(()), 0)
            self.assertEqual(bench.undo(), 59)
            self.assertEqual(bench.redo(), 60)
            self.check_raises(errors.NothingToRedo(), bench.redo)
            bench.undo()
            self.assertEqual(bench.attempt([("leave", 1)] * BATCH), BATCH)
            self.assertEqual(len(bench), 60)
            self.check_refused(bench, errors.TooManyEdits(), bench.attempt, [("leave", 1)])
            for version in range(59, -1, -1):
                self.assertEqual(bench.undo(), version)
            self.check_raises(errors.NothingToUndo(), bench.undo)
            for version in range(1, 61):
                self.assertEqual(bench.redo(), version)


class Items(BenchCase):
    def test_getting(self):
        for maker in MAKERS:
            bench = maker(("kept", "stays", made(F0)))
            self.check_told(["kept", "stays", made(F0)], [bench[field] for field in FIELDS])
            bench.leave(2)
            self.check_told("stays", bench[2])

    def test_getting_what_is_no_field(self):
        for maker, value in itertools.product(MAKERS, NO_FIELDS):
            bench = maker()
            error = self.check_refused(bench, errors.NoField(value), bench.__getitem__, value)
            self.assertIs(error.field, value)

    def test_setting(self):
        for maker in MAKERS:
            bench = maker()
            bench[0] = "stays"
            bench[2] = "kept"
            bench[1] = ("made", ("plus", F2, 1))
            bench[0] = ("made", 0)
            self.check_told((made(0), made(("plus", F2, 1)), "kept"), bench.plan)
            self.check_told((("leave", 0), ("keep", 2), ("make", 1, ("plus", F2, 1)), ("make", 0, 0)), bench.edits())
            bench.undo()
            bench.undo()
            bench[1] = "kept"
            self.check_told((("stays", "kept", "kept"), 3, []), (bench.plan, len(bench), redone(bench)))

    def test_setting_what_is_no_field(self):
        for maker, value in itertools.product(MAKERS, NO_FIELDS):
            bench = maker()
            for way in ("kept", "stays", made(1), made(None), "wrong", None, made(F1)):
                error = self.check_refused(bench, errors.NoField(value), bench.__setitem__, value, way)
                self.assertIs(error.field, value)

    def test_setting_what_is_no_way(self):
        wrong = ODD_VALUES + (
            0, "Kept", "keep", "leave", "stay", "made", ("made",), ("made", 1, 1), ["made", 1], ("make", 1), ("kept",), ("kept", 1),
            ("stays", 1), ["kept"], {"made": 1}, (["made"], 1), (None, 1), ("Made", 1), plain_bench(),
        )
        for maker, field, way in itertools.product(MAKERS, FIELDS, wrong):
            bench = maker(("stays", "kept", made(F1)))
            bench.keep(0)
            bench.undo()
            self.check_refused(bench, errors.BadPlan((field, "way")), bench.__setitem__, field, way)

    def test_setting_what_cannot_be_made(self):
        for maker in MAKERS:
            bench = maker(("kept", "stays", "kept"))
            self.check_refused(bench, errors.BadPlan((2, "way")), bench.__setitem__, 2, ("made", "key"))
            self.check_refused(bench, errors.BadPlan((2, "way")), bench.__setitem__, 2, ("made", None))
            self.check_refused(bench, errors.BadPlan((2, "made")), bench.__setitem__, 2, ("made", F1))
            bench[2] = made(F0)
            self.check_refused(bench, errors.BadPlan((2, "made")), bench.__setitem__, 0, "stays")

    def test_signs(self):
        for maker in MAKERS:
            bench = same = maker()
            bench -= 1
            self.assertIs(bench, same)
            self.check_told(("kept", "stays", "kept"), bench.plan)
            bench += 1
            bench -= 2
            self.assertIs(bench, same)
            self.assertIs(type(bench), type(maker()))
            self.check_told((("leave", 1), ("keep", 1), ("leave", 2)), bench.edits())

    def test_signs_that_are_refused(self):
        for maker, value in itertools.product(MAKERS, NO_FIELDS):
            bench = same = maker()
            before = all_of(bench)
            with self.assertRaises(errors.NoField) as caught:
                bench += value
            self.assertIs(caught.exception.field, value)
            with self.assertRaises(errors.NoField) as caught:
                bench -= value
            self.assertIs(caught.exception.field, value)
            self.assertIs(bench, same)
            self.assertEqual(all_of(bench), before)
        bench = plain_bench(("kept", made(F0), "kept"))
        with self.assertRaises(errors.BadPlan) as caught:
            bench -= 0
        self.assertEqual(caught.exception.error, (1, "made"))

    def test_signs_at_an_item_or_an_attribute(self):
        rows = [plain_bench(), safe_bench()]
        first = list(rows)
        rows[0] -= 0
        rows[1] -= 0
        rows[1] += 0
        self.assertTrue(all(one is other for one, other in zip(rows, first)))
        self.assertEqual([len(bench) for bench in rows], [1, 2])


class UndoAndRedo(BenchCase):
    def test_nothing_to_undo_or_redo(self):
        for maker in MAKERS:
            bench = maker()
            self.check_refused(bench, errors.NothingToUndo(), bench.undo)
            self.check_refused(bench, errors.NothingToRedo(), bench.redo)
            bench.leave(0)
            self.check_refused(bench, errors.NothingToRedo(), bench.redo)
            bench.undo()
            self.check_refused(bench, errors.NothingToUndo(), bench.undo)
            bench.redo()
            self.check_refused(bench, errors.NothingToRedo(), bench.redo)

    def test_back_and_forth(self):
        for maker in MAKERS:
            bench = maker()
            bench.leave(0)
            bench.make(1, F2)
            bench.attempt([("keep", 0), ("turn", 1, 0)])
            plans = [("kept", "kept", "kept"), ("stays", "kept", "kept"), ("stays", made(F2), "kept"), (made(F2), "kept", "kept")]
            edits = (("leave", 0), ("make", 1, F2), ("attempt", (("keep", 0), ("turn", 1, 0))))
            for version in (2, 1, 0):
                self.check_told(version, bench.undo())
                self.check_told((plans[version], edits[:version]), (bench.plan, bench.edits()))
            for version in (1, 2, 3):
                self.check_told(version, bench.redo())
                self.check_told((plans[version], edits[:version]), (bench.plan, bench.edits()))

    def test_a_new_edit_forgets_what_was_undone(self):
        def through_sign(bench):
            bench += 1

        def through_item(bench):
            bench[1] = "kept"

        for maker in MAKERS:
            for new in (
                lambda bench: bench.keep(1), lambda bench: bench.leave(0), lambda bench: bench.make(0, 1), lambda bench: bench.turn(0, 0),
                lambda bench: bench.attempt([("keep", 0)]), through_sign, through_item,
            ):
                bench = maker()
                bench.leave(0)
                bench.leave(1)
                bench.undo()
                self.assertEqual(len(redone(bench)), 1)
                new(bench)
                self.check_refused(bench, errors.NothingToRedo(), bench.redo)
                self.assertEqual(len(bench), 2)

    def test_what_is_refused_forgets_nothing(self):
        for maker in MAKERS:
            bench = maker()
            bench.leave(0)
            bench.leave(1)
            bench.undo()
            bench.undo()
            for expected, function, given in (
                (errors.NoField(5), bench.keep, (5,)), (errors.BadPlan((0, "way")), bench.make, (0, None)),
                (errors.NothingToUndo(), bench.undo, ()), (errors.BadEdits(), bench.attempt, (None,)),
                (errors.BadEdit(0), bench.attempt, ([None],)), (errors.Rejected(1), bench.attempt, ([("keep", 0), ("keep", 5)],)),
            ):
                self.check_refused(bench, expected, function, *given)
            self.assertEqual(bench.attempt([]), 0)
            self.assertEqual([bench.redo(), bench.redo()], [1, 2])

    def test_drawn_edits(self):
        """A bench is what a new one is on which the edits that stand were done; undo and redo take turns."""
        for seed in range(60):
            numbers = Numbers(seed + 500)
            game = numbers.one_of((HEAL, EXAMPLE, BY_KEYS, FULL, SWAP, DROP))
            plan = drawn_plan(numbers, game)
            bench, other = Bench(game, plan), None
            if is_safe(game, plan, 2) and seed % 2:
                bench, other = SafeBench(game, plan, 2, 2), (2, 2)
            plans, undone = [plan], []
            for _ in range(40):
                undone = self.one_more(numbers, game, bench, plans, undone)
                self.check_told((plans[-1], len(plans) - 1), (bench.plan, len(bench)))
                self.check_told(plans, [bench.state(version=version) for version in range(len(plans))])
                again = Bench(game, plan) if other is None else SafeBench(game, plan, *other)
                for edit in bench.edits():
                    getattr(again, edit[0])(*edit[1:])
                self.assertTrue(again == bench)
                self.check_told((bench.plan, bench.edits(), str(bench)), (again.plan, again.edits(), str(again)))

    def one_more(self, numbers, game, bench, plans, undone):
        """Do something to the bench and to the list of its plans; return the list of those undone."""
        kind = numbers.below(8)
        if kind < 2:
            if len(plans) > 1:
                bench.undo()
                return undone + [plans.pop()]
            self.check_raises(errors.NothingToUndo(), bench.undo)
        elif kind < 4:
            if undone:
                bench.redo()
                plans.append(undone[-1])
                return undone[:-1]
            self.check_raises(errors.NothingToRedo(), bench.redo)
        else:
            items = [self.drawn_item(numbers, game) for _ in range(1 + numbers.below(3))]
            try:
                if kind == 4:
                    bench.attempt(items)
                else:
                    getattr(bench, items[0][0])(*items[0][1:])
            except (errors.SaveError, errors.NoField):
                return undone
            plans.append(bench.plan)
            return []
        return undone

    def drawn_item(self, numbers, game):
        name, field = numbers.one_of(("keep", "leave", "make", "turn")), numbers.below(len(game[0]) + (numbers.below(9) == 0))
        if name == "make":
            return (name, field, numbers.one_of((0, 1, -3, F0, F1, ("plus", F1, 1))))
        return (name, field, numbers.below(len(game[0]))) if name == "turn" else (name, field)


class States(BenchCase):
    def test_all_versions(self):
        for maker in MAKERS:
            bench = maker(("stays", "kept", "kept"))
            bench.leave(1)
            bench.attempt([("keep", 0), ("make", 2, F0)])
            bench.turn(1, 2)
            bench.undo()
            plans = [("stays", "kept", "kept"), ("stays", "stays", "kept"), ("kept", "stays", made(F0))]
            for version, plan in enumerate(plans):
                self.check_told(plan, bench.state(version=version))
            self.check_told(plans[-1], bench.state())
            self.check_told(plans[-1], bench.state(version=None))
            self.assertEqual(bench.edits(), (("leave", 1), ("attempt", (("keep", 0), ("make", 2, F0)))))

    def test_no_versions(self):
        for maker in MAKERS:
            bench = maker()
            for count in range(3):
                wrong = [value for value in NO_FIELDS if value is not None and not (type(value) is int and 0 <= value <= count)]
                for value in wrong + [count + 1, -1, 60, True, False, str(count)]:
                    error = self.check_refused(bench, errors.NoVersion(value), bench.state, version=value)
                    self.assertIs(error.version, value)
                bench.leave(count)

    def test_the_version_is_passed_by_keyword(self):
        for maker in MAKERS:
            with self.assertRaises(TypeError):
                maker().state(0)

    def test_what_is_told_is_not_changed_later(self):
        for maker in MAKERS:
            bench = maker()
            bench.leave(0)
            told = [bench.plan, bench.edits(), bench.state(), bench.depths()]
            before = repr(told)
            bench.make(0, 1)
            bench.attempt([("keep", 0), ("leave", 2)])
            bench.undo()
            self.assertEqual(repr(told), before)


class Attempts(BenchCase):
    def test_lists_and_tuples(self):
        for maker, kind in itertools.product(MAKERS, (list, tuple)):
            bench = maker()
            items = kind([("leave", 0), ("make", 1, F2), ("turn", 0, 1), ("keep", 1)])
            self.check_told(4, bench.attempt(items))
            self.check_told((made(F2), "kept", "kept"), bench.plan)
            self.check_told((("attempt", tuple(items)),), bench.edits())
            self.check_told(1, len(bench))
            self.check_told(0, bench.undo())
            self.check_told(("kept", "kept", "kept"), bench.plan)
            self.check_told(1, bench.redo())
            self.check_told((made(F2), "kept", "kept"), bench.plan)

    def test_no_items(self):
        for maker in MAKERS:
            bench = maker()
            bench.leave(0)
            bench.undo()
            before = all_of(bench)
            for edits in ([], ()):
                self.check_told(0, bench.attempt(edits, watch=lambda held: self.fail("there is nothing to watch")))
                self.check_told(0, bench.attempt(edits))
            self.assertEqual(all_of(bench), before)

    def test_no_lists(self):
        for maker in MAKERS:
            bench = maker()
            bench.leave(0)
            bench.undo()
            for value in [value for value in OTHER_VALUES if not isinstance(value, (list, tuple))] + ["keep", {("keep", 0): 1}]:
                self.check_refused(bench, errors.BadEdits(), bench.attempt, value)

    def test_20_and_21_items(self):
        for maker in MAKERS:
            bench = maker()
            self.assertEqual(bench.attempt([("leave", 0)] * 20), 20)
            self.assertEqual(bench.edits(), (("attempt", (("leave", 0),) * 20),))
            for edits in ([("leave", 0)] * 21, (("leave", 0),) * 21, [None] * 21, (None,) * 400, [("keep", 9)] * 21):
                self.check_refused(bench, errors.BadEdits(), bench.attempt, edits)

    def test_no_items_of_edits(self):
        wrong = [value for value in OTHER_VALUES] + [
            ("keep",), ("leave",), ("make",), ("turn",), ("make", 0), ("turn", 0), ("keep", 0, 0), ("leave", 0, 0), ("make", 0, 1, 1),
            ("turn", 0, 1, 2), ["keep", 0], ("Keep", 0), ("undo",), ("redo",), ("attempt", ()), ("attempt", (("keep", 0),)), (None, 0),
            (["keep"], 0), ("kept", 0), ("state", 0), ("back", 0, 1), (0, "keep"), ("keep ", 0), ({}, 0), (("keep", 0),), ("__init__", HEAL),
        ]
        for maker, value in itertools.product(MAKERS, wrong):
            bench = maker()
            self.check_refused(bench, errors.BadEdit(0), bench.attempt, [value])
            self.check_refused(bench, errors.BadEdit(1), bench.attempt, [("leave", 0), value, None])
            # What is no item is told ahead of all that would be refused.
            self.check_refused(bench, errors.BadEdit(2), bench.attempt, (("leave", 9), ("make", 0, "key"), value))

    def test_errors_in_their_order(self):
        for maker in MAKERS:
            bench = maker()
            for _ in range(MAX_EDITS):
                bench.keep(0)
            self.check_refused(bench, errors.BadEdits(), bench.attempt, None)
            self.check_refused(bench, errors.BadEdits(), bench.attempt, [("keep", 0)] * 21)
            self.check_refused(bench, errors.BadEdit(1), bench.attempt, [("keep", 0), None])
            self.check_refused(bench, errors.TooManyEdits(), bench.attempt, [("keep", 0)])
            self.check_refused(bench, errors.TooManyEdits(), bench.attempt, [("keep", 9)])

    def test_items_that_are_refused(self):
        for maker in MAKERS:
            for at in range(4):
                for wrong in (("keep", 3), ("keep", True), ("leave", None), ("make", 0, "key"), ("make", 0, F0), ("turn", 0, -1), ("make", [0], 1)):
                    bench = maker()
                    bench.leave(0)
                    bench.undo()
                    items = [("leave", 0), ("leave", 1), ("make", 2, 1)][:at] + [wrong, ("keep", 9), ("keep", 0)]
                    self.check_refused(bench, errors.Rejected(at), bench.attempt, items)
                    self.assertEqual(bench.redo(), 1)

    def test_each_plan_on_the_way_has_to_be_one(self):
        for maker in MAKERS:
            bench = maker(("kept", made(F0), "kept"))
            self.check_refused(bench, errors.Rejected(0), bench.attempt, [("leave", 0), ("leave", 1)])
            self.assertEqual(bench.attempt([("leave", 1), ("leave", 0)]), 2)

    def test_watch_is_passed_by_keyword(self):
        for maker in MAKERS:
            with self.assertRaises(TypeError):
                maker().attempt([], None)

    def test_more_items_than_edits_are_left(self):
        for maker in MAKERS:
            bench = maker()
            for _ in range(MAX_EDITS - 1):
                bench.keep(0)
            self.assertEqual(bench.attempt([("leave", 0), ("keep", 0)] * 10), 20)
            self.assertEqual(len(bench), MAX_EDITS)

    def test_edits_that_are_changed_meanwhile(self):
        for maker in MAKERS:
            bench, items = maker(), [("leave", 0), ("leave", 1), ("leave", 2)]

            def watch(held):
                items[:] = [("keep", 9)] * 5

            self.check_told(3, bench.attempt(items, watch=watch))
            self.check_told((("attempt", (("leave", 0), ("leave", 1), ("leave", 2))),), bench.edits())
            items.clear()
            bench.undo()
            bench.redo()
            self.check_told(("stays", "stays", "stays"), bench.plan)
            self.check_told((("attempt", (("leave", 0), ("leave", 1), ("leave", 2))),), bench.edits())


class Watches(BenchCase):
    ITEMS = [("leave", 0), ("leave", 1), ("keep", 0), ("make", 2, 1)]

    PLANS = [("stays", "kept", "kept"), ("stays", "stays", "kept"), ("kept", "stays", "kept"), ("kept", "stays", made(1))]

    def test_what_a_watch_sees(self):
        for maker in MAKERS:
            bench, seen = maker(), []
            bench.turn(0, 1)

            def watch(held):
                self.assertIs(held, bench)
                seen.append((held.plan, held[0], len(held), held.edits(), held.state(), held.state(version=2), held.state(version=1), str(held)))
                self.check_raises(errors.NoVersion(3), held.state, version=3)
                self.check_told((HEAL, taken_back(HEAL, held.plan, (1, 1, 1), (0, 0, 0))), (held.game, held.back((1, 1, 1), (0, 0, 0))))
                self.check_told(depths(HEAL, held.plan), held.depths())
                self.check_told(None if is_safe(HEAL, held.plan, 0) else 0, held.first_unsafe(0, 0))
                self.assertTrue(held == held and not held != held)
                self.assertEqual(held == Bench(HEAL, held.plan), maker is plain_bench)

            self.assertEqual(bench.attempt(self.ITEMS, watch=watch), 4)
            for count, (plan, told) in enumerate(zip(self.PLANS, seen), 1):
                edits = (("turn", 0, 1), ("attempt", tuple(self.ITEMS[:count])))
                kept = sum(way == "kept" for way in plan)
                self.check_told((plan, plan[0], 2, edits, plan, plan, ("kept",) * 3, f"3 fields, {kept} kept, 2 edits"), told)
            self.assertEqual(len(seen), 4)

    def test_a_watch_that_ends_it(self):
        for maker, end in itertools.product(MAKERS, range(1, 6)):
            bench, calls = maker(), []
            bench.leave(2)
            bench.undo()

            def watch(held):
                calls.append(held)
                return len(calls) == end

            done = bench.attempt(self.ITEMS, watch=watch)
            self.check_told(min(end, 4), done)
            self.assertEqual(len(calls), done)
            self.check_told((self.PLANS[done - 1], (("attempt", tuple(self.ITEMS[:done])),), 1), (bench.plan, bench.edits(), len(bench)))
            self.assertEqual(redone(bench), [])
            # The watch is not called when the attempt is redone.
            bench.undo()
            bench.redo()
            self.assertEqual(len(calls), done)
            self.check_told(self.PLANS[done - 1], bench.plan)

    def test_items_behind_the_end_are_not_done(self):
        for maker in MAKERS:
            bench = maker()
            self.assertEqual(bench.attempt([("leave", 0), ("keep", 9)], watch=lambda held: True), 1)
            self.assertEqual(bench.edits(), (("attempt", (("leave", 0),)),))

    def test_values_that_count_as_true_or_not(self):
        for maker in MAKERS:
            for value in (None, False, 0, "", (), [], {}, 1, True, "no", (0,), [0], {0: 0}, -1):
                self.assertEqual(maker().attempt(self.ITEMS, watch=lambda held: value), 1 if value else 4)
            # A bench with edits counts as true.
            self.assertEqual(maker().attempt(self.ITEMS, watch=lambda held: held), 1)
            self.assertEqual(maker().attempt(self.ITEMS, watch=lambda held: maker()), 4)

    def test_how_often_a_result_is_asked(self):
        for maker, truth in itertools.product(MAKERS, (False, True)):
            results = []

            def watch(held):
                results.append(Asked(truth))
                return results[-1]

            self.assertEqual(maker().attempt(self.ITEMS, watch=watch), 1 if truth else 4)
            self.assertEqual([result.count for result in results], [1] if truth else [1, 1, 1, 1])

    def test_a_watch_that_raises(self):
        for maker, at in itertools.product(MAKERS, range(4)):
            for error in (Odd("odd"), errors.NoField(1), errors.Busy(), errors.Rejected(7), errors.Unsafe(2), StopIteration(), KeyboardInterrupt(), ValueError("odd")):
                for result in (False, True):
                    bench, calls = maker(), []
                    bench.leave(0)
                    bench.leave(1)
                    bench.undo()
                    before = all_of(bench)

                    def watch(held):
                        calls.append(held)
                        if len(calls) == at + 1:
                            if result:
                                return Asked(error)
                            raise error

                    with self.assertRaises(type(error)) as caught:
                        bench.attempt(self.ITEMS, watch=watch)
                    self.assertIs(caught.exception, error)
                    self.assertEqual(len(calls), at + 1)
                    self.assertEqual(all_of(bench), before)
                    # The bench is not busy any more.
                    self.assertEqual([bench.redo(), bench.undo(), bench.keep(0)], [2, 1, 2])

    def test_an_item_that_is_refused_behind_a_watch(self):
        for maker in MAKERS:
            bench, calls = maker(), []
            bench.leave(0)
            bench.undo()
            self.check_refused(bench, errors.Rejected(2), bench.attempt, [("leave", 0), ("leave", 1), ("keep", 3)], watch=calls.append)
            self.assertEqual(len(calls), 2)
            self.assertEqual(bench.redo(), 1)

    def everything_is_busy(self, bench):
        for function, given in (
            (bench.keep, (0,)), (bench.keep, (9,)), (bench.leave, (None,)), (bench.make, (0, 1)), (bench.make, (True, "key")), (bench.turn, (0, 1)),
            (bench.turn, (9, 9)), (bench.undo, ()), (bench.redo, ()), (bench.attempt, ([],)), (bench.attempt, (None,)), (bench.attempt, ([None],)),
            (bench.attempt, ([("keep", 0)],)), (bench.__setitem__, (0, "kept")), (bench.__setitem__, (0, "stays")), (bench.__setitem__, (0, made(1))),
            (bench.__setitem__, (0, None)), (bench.__setitem__, (9, None)), (bench.__iadd__, (0,)), (bench.__isub__, (9,)),
        ):
            # A copy of a busy bench is busy, so what it tells is compared without its redos.
            before = repr((bench.plan, bench.edits(), len(bench), str(bench)))
            self.check_raises(errors.Busy(), function, *given)
            self.assertEqual(repr((bench.plan, bench.edits(), len(bench), str(bench))), before)

    def test_busy_while_a_watch_runs(self):
        for maker in MAKERS:
            bench = maker()
            bench.leave(0)
            bench.undo()
            self.assertEqual(bench.attempt(self.ITEMS, watch=self.everything_is_busy), 4)
            self.check_told((self.PLANS[-1], 1), (bench.plan, len(bench)))
            self.assertEqual(bench.keep(0), 2)

    def test_busy_while_a_result_is_asked(self):
        for maker in MAKERS:
            bench, case = maker(), self

            class Asking:
                def __bool__(self):
                    case.everything_is_busy(bench)
                    case.assertEqual(bench.edits()[0][0], "attempt")
                    return False

            self.assertEqual(bench.attempt(self.ITEMS, watch=lambda held: Asking()), 4)
            self.assertEqual(bench.undo(), 0)

    def test_busy_goes_ahead_of_too_many_edits(self):
        for maker in MAKERS:
            bench = maker()
            for _ in range(MAX_EDITS - 1):
                bench.keep(0)
            self.assertEqual(bench.attempt([("keep", 0)], watch=self.everything_is_busy), 1)

    def test_another_bench_may_be_edited(self):
        for maker, other_maker in itertools.product(MAKERS, repeat=2):
            bench, other = maker(), other_maker()

            def watch(held):
                other.leave(0)
                other.attempt([("keep", 0)], watch=lambda inner: self.check_raises(errors.Busy(), held.keep, 0) is None)
                other.undo()
                other[1] = "kept"
                self.everything_is_busy(held)

            self.assertEqual(bench.attempt(self.ITEMS, watch=watch), 4)
            self.assertEqual((len(other), other.plan), (8, ("stays", "kept", "kept")))

    def test_an_error_within_leads_out(self):
        """A watch that edits its bench raises Busy, which ends the attempt."""
        for maker in MAKERS:
            bench = maker()
            bench.leave(0)
            bench.undo()
            self.check_refused(bench, errors.Busy(), bench.attempt, self.ITEMS, watch=lambda held: held.keep(0))
            self.assertEqual(bench.redo(), 1)

    def test_a_watch_that_calls_what_it_may(self):
        for maker in MAKERS:
            bench = maker()
            with self.assertRaises(errors.BadWorld):
                bench.attempt(self.ITEMS, watch=lambda held: held.back(None, None))
            with self.assertRaises(errors.NoField):
                bench.attempt(self.ITEMS, watch=lambda held: held[9])
            with self.assertRaises(errors.BadDepths):
                bench.attempt(self.ITEMS, watch=lambda held: held.first_unsafe(-1, None))
            self.assertEqual(len(bench), 0)


class Queries(BenchCase):
    def test_depths(self):
        for seed, game in enumerate(GAMES + (LEAP, DROP, DROP_AND_TURN, THREE_TURNS, gaps(5), gaps(4)) + tuple(drawn_games(20))):
            numbers = Numbers(seed)
            bench = Bench(game)
            for _ in range(4):
                plan = drawn_plan(numbers, game)
                for field, way in enumerate(plan):
                    bench[field] = "kept"
                for field, way in enumerate(plan):
                    if way != "kept":
                        bench[field] = way
                self.check_told(plan, bench.plan)
                self.check_told(depths(game, plan), bench.depths())
                self.check_told(depths(game, plan), Bench(game, plan).depths())
                bench = Bench(game)

    def test_first_unsafe(self):
        for game, plan in (
            (LEAP, ("stays",)), (DROP, ("stays", "stays")), (DROP_AND_TURN, ("stays", "stays")), (gaps(5), ("kept", "stays", "kept")),
            (gaps(4), ("kept", "stays", "kept")), (ROUNDS[6], ("stays",)), (STILL, ("stays",)), (STILL, (made(1),)), (TURN, ("kept",)),
        ):
            bench = Bench(game, plan)
            unsafe = [not is_safe(game, plan, depth) for depth in range(40)]
            for low, high in itertools.product(range(26), (None, 0, 1, 4, 5, 9, 20, 21, 25)):
                if high is None or high >= low:
                    found = [depth for depth in range(low, 40 if high is None else high + 1) if unsafe[depth]]
                    self.check_told(found[0] if found else None, bench.first_unsafe(low, high))

    def test_first_unsafe_far_away(self):
        bench = Bench(THREE_TURNS, ("kept", "stays"))
        base = END - END % 60 - 60
        for low, high, depth in (
            (base, None, base + 1), (base, base, None), (base, base + 1, base + 1), (base + 1, None, base + 1), (base - 1, END, base - 1),
            (0, 0, None), (0, END, 1), (60, 60, None), (60, 61, 61), (59, 60, 59),
        ):
            self.check_told(depth, bench.first_unsafe(low, high))
        # Depths have no end, even if what is handed in has.
        bench = Bench(ROUNDS[2], ("stays",))
        self.check_told((END + 1, None, END - 1), (bench.first_unsafe(END, None), bench.first_unsafe(END, END), bench.first_unsafe(END - 1, END)))
        self.check_told(7, bench.first_unsafe(low=6, high=7))

    def test_no_depths(self):
        for bench in (Bench(LEAP, ("stays",)), SafeBench(HEAL, None, 2, 5)):
            wrong = [value for value in OTHER_VALUES if type(value) is not int or not 0 <= value <= END] + [-1, END + 1, True, False]
            for value in wrong:
                self.check_refused(bench, errors.BadDepths(), bench.first_unsafe, value, None)
                self.check_refused(bench, errors.BadDepths(), bench.first_unsafe, value, 5)
                self.check_refused(bench, errors.BadDepths(), bench.first_unsafe, value, value)
                if value is not None:
                    self.check_refused(bench, errors.BadDepths(), bench.first_unsafe, 0, value)
            self.check_refused(bench, errors.BadDepths(), bench.first_unsafe, None, None)
            for low, high in ((1, 0), (5, 4), (END, 0), (END, END - 1), (1, False), (0, False), (1, True)):
                self.check_refused(bench, errors.BadDepths(), bench.first_unsafe, low, high)
            bench.first_unsafe(5, 5)
            bench.first_unsafe(END, END)

    def test_back(self):
        for game, plan in ((EXAMPLE, ("kept", "stays")), (WHEEL, (made(("field", 1)), "kept")), (COUNT, (made(3), "stays"))):
            for bench in (Bench(game, plan),):
                for old, now in itertools.product(worlds_of(game), repeat=2):
                    self.check_told(taken_back(game, plan, old, now), bench.back(old, now))
        self.check_told((0, 1), Bench(EXAMPLE, ("kept", "stays")).back(old=(0, 0), now=(1, 1)))

    def test_no_worlds(self):
        bench = Bench(EXAMPLE, ("kept", "stays"))
        wrong = ODD_VALUES + ((2, 0), (0, 3), (-1, 0), (0,), (0, 0, 0), [0, 0], (False, 0), (0, True), (0, None), ("0", "0"), 0)
        for value in wrong:
            for old, now in ((value, (0, 0)), ((0, 0), value), (value, value), (value, None)):
                error = self.check_refused(bench, errors.BadWorld(value), bench.back, old, now)
                self.assertIs(error.world, value)
        self.check_refused(bench, errors.BadWorld((9, 9)), bench.back, (9, 9), None)

    def test_queries_change_nothing(self):
        for maker in MAKERS:
            bench = maker()
            bench.leave(0)
            bench.leave(1)
            bench.undo()
            before = all_of(bench)
            for _ in range(2):
                told = [bench.depths(), bench.first_unsafe(0, None), bench.back((0, 0, 0), (1, 1, 1)), bench.state(), bench.edits(), len(bench), str(bench), bench[0], bench == bench]
            self.assertEqual(all_of(bench), before)
            self.check_told(told, [bench.depths(), bench.first_unsafe(0, None), bench.back((0, 0, 0), (1, 1, 1)), bench.state(), bench.edits(), len(bench), str(bench), bench[0], bench == bench])

    def test_str(self):
        for game, plan, text in (
            (TURN, ("kept",), "1 fields, 1 kept, 0 edits"), (TURN, ("stays",), "1 fields, 0 kept, 0 edits"),
            (EXAMPLE, ("kept", made(F0)), "2 fields, 1 kept, 0 edits"), (SWAP, ("kept",) * 4, "4 fields, 4 kept, 0 edits"),
        ):
            self.check_told(text, str(Bench(game, plan)))
        for maker in MAKERS:
            bench = maker()
            told = [str(bench)]
            for edit in (lambda: bench.leave(0), lambda: bench.make(1, 0), lambda: bench.attempt([("leave", 2), ("keep", 0)]), bench.undo, bench.undo):
                edit()
                told.append(str(bench))
            self.assertEqual(told, [
                "3 fields, 3 kept, 0 edits", "3 fields, 2 kept, 1 edits", "3 fields, 1 kept, 2 edits", "3 fields, 1 kept, 3 edits",
                "3 fields, 1 kept, 2 edits", "3 fields, 2 kept, 1 edits",
            ])
        bench = plain_bench()
        for _ in range(60):
            bench.keep(1)
        self.assertEqual(str(bench), "3 fields, 3 kept, 60 edits")

    def test_a_bench_without_edits_counts_as_false(self):
        for maker in MAKERS:
            bench = maker()
            self.assertIs(bool(bench), False)
            bench.keep(0)
            self.assertIs(bool(bench), True)
            bench.undo()
            self.assertIs(bool(bench), False)


class Equal(BenchCase):
    def check(self, one, other, expected):
        for left, right in ((one, other), (other, one)):
            self.assertIs(left == right, expected)
            self.assertIs(left != right, not expected)

    def test_games_and_plans(self):
        self.check(Bench(HEAL), Bench(HEAL, ("kept",) * 3), True)
        self.check(Bench(HEAL), Bench(HEAL, ("kept", "kept", "stays")), False)
        self.check(Bench(TURN), Bench(STILL), False)
        self.check(Bench(FALL), Bench(FALL[:2] + ((1,),) + FALL[3:]), False)
        self.check(Bench(EXAMPLE, ("kept", made(F0))), Bench(EXAMPLE, ("kept", made(F0))), True)
        self.check(Bench(EXAMPLE, ("kept", made(F0))), Bench(EXAMPLE, ("kept", made(("plus", F0, 0)))), False)
        self.check(Bench(SINK), Bench(SINK), True)

    def test_whatever_their_edits(self):
        for maker in MAKERS:
            one, other = maker(), maker()
            one.leave(0)
            self.check(one, other, False)
            one.keep(0)
            self.check(one, other, True)
            other.attempt([("leave", 1), ("keep", 1)])
            self.check(one, other, True)
            one.undo()
            self.check(one, other, False)
            self.check(one, one, True)

    def test_beside_safe_benches(self):
        self.check(Bench(HEAL), SafeBench(HEAL), False)
        self.check(Bench(HEAL), SafeBench(HEAL, None, 0, None), False)
        self.check(SafeBench(HEAL), SafeBench(HEAL, None, 0, None), True)
        self.check(SafeBench(HEAL), SafeBench(HEAL, None, 1), False)
        self.check(SafeBench(HEAL, None, 1), SafeBench(HEAL, None, low=1), True)
        self.check(SafeBench(HEAL, None, 1), SafeBench(HEAL, None, 1, 5), False)
        self.check(SafeBench(HEAL, None, 1, 5), SafeBench(HEAL, None, 1, 5), True)
        self.check(SafeBench(HEAL, None, 1, 5), SafeBench(HEAL, None, 1, 6), False)
        self.check(SafeBench(HEAL, None, 1, 5), SafeBench(HEAL, ("kept", "stays", "kept"), 1, 5), False)
        self.check(SafeBench(TURN), SafeBench(STILL), False)

    def test_anything_else(self):
        for maker in MAKERS:
            bench = maker()
            for value in OTHER_VALUES + (0.5, object(), HEAL, bench.plan, (HEAL, bench.plan), Bench, str(bench), [bench]):
                self.check(bench, value, False)


class SafeBenches(BenchCase):
    def test_low_and_high(self):
        for low, high in ((0, None), (0, 0), (1, 1), (3, 60), (0, END), (END, END), (END, None)):
            bench = SafeBench(HEAL, None, low, high)
            self.check_told((low, high), (bench.low, bench.high))
        self.check_told((0, None), (SafeBench(HEAL).low, SafeBench(HEAL).high))
        self.check_told((2, 4), (SafeBench(HEAL, high=4, low=2).low, SafeBench(HEAL, high=4, low=2).high))
        self.assertIsInstance(SafeBench(HEAL), Bench)

    def test_errors_of_the_constructor_in_their_order(self):
        unsafe = ("kept", "kept", made(1))
        self.check_raises(errors.BadGame((None, "game")), SafeBench, None, "wrong", -1, -2)
        self.check_raises(errors.BadPlan((None, "plan")), SafeBench, HEAL, "wrong", -1, -2)
        for low, high in ((-1, None), (None, None), (True, None), (0, False), (5, 4), (END + 1, None), (0, END + 1), ("0", None), (0, "1"), (0, (1,)), ([], {})):
            self.check_raises(errors.BadDepths(), SafeBench, HEAL, unsafe, low, high)
            self.check_raises(errors.BadDepths(), SafeBench, HEAL, None, low, high)
        self.check_raises(errors.Unsafe(0), SafeBench, HEAL, unsafe)
        self.check_raises(errors.Unsafe(0), SafeBench, HEAL, unsafe, 0, 0)
        SafeBench(HEAL, unsafe, 1)

    def test_the_least_depth_is_told(self):
        for game, plan, low, high, depth in (
            (LEAP, ("stays",), 0, None, 1), (LEAP, ("stays",), 2, 2, 2), (LEAP, ("stays",), 2, END, 2), (LEAP, ("stays",), 3, None, None),
            (LEAP, ("stays",), 0, 0, None), (ROUNDS[6], ("stays",), 6, None, 7), (ROUNDS[6], ("stays",), 6, 6, None), (ROUNDS[6], ("stays",), 6, 7, 7),
            (gaps(5), ("kept", "stays", "kept"), 7, 9, None), (gaps(5), ("kept", "stays", "kept"), 7, 10, 10), (gaps(5), ("kept", "stays", "kept"), 19, None, 20),
            (ROUNDS[2], ("stays",), END, None, END + 1), (ROUNDS[2], ("stays",), END, END, None),
        ):
            if depth is None:
                self.check_told(plan, SafeBench(game, plan, low, high).plan)
            else:
                self.check_raises(errors.Unsafe(depth), SafeBench, game, plan, low, high)

    def test_edits(self):
        bench = SafeBench(BY_KEYS, None, 1)
        self.check_refused(bench, errors.Unsafe(1), bench.leave, 0)
        self.check_refused(bench, errors.Unsafe(1), bench.make, 0, 1)
        self.check_refused(bench, errors.Unsafe(1), bench.__setitem__, 0, "stays")
        self.check_refused(bench, errors.Unsafe(1), bench.__isub__, 0)
        bench -= 1
        self.check_refused(bench, errors.Unsafe(1), bench.turn, 0, 1)
        self.assertEqual([bench.make(1, 1), bench.make(1, F0), bench.keep(1)], [2, 3, 4])
        bench = SafeBench(BY_KEYS, ("kept", "stays"))
        self.check_refused(bench, errors.Unsafe(0), bench.make, 1, 0)
        self.check_refused(bench, errors.Unsafe(0), bench.make, 1, 1)
        self.check_refused(bench, errors.Unsafe(0), bench.__setitem__, 1, made(F0))

    def test_other_errors_go_ahead(self):
        bench = SafeBench(BY_KEYS, ("kept", "stays"), 1)
        self.check_refused(bench, errors.NoField(2), bench.turn, 0, 2)
        self.check_refused(bench, errors.BadPlan((0, "made")), bench.make, 0, F1)
        self.check_refused(bench, errors.BadPlan((0, "way")), bench.__setitem__, 0, "wrong")
        for _ in range(MAX_EDITS):
            bench.keep(0)
        self.check_refused(bench, errors.TooManyEdits(), bench.leave, 0)
        self.check_refused(bench, errors.TooManyEdits(), bench.attempt, [("leave", 0)])

    def test_within_low_and_high_alone(self):
        # This plan is not safe at the depths 1 and 2.
        for low, high, depth in ((0, 0, None), (3, None, None), (3, END, None), (0, 1, 1), (0, None, 1), (2, 2, 2), (2, None, 2), (1, END, 1)):
            bench = SafeBench(LEAP, None, low, high)
            if depth is None:
                self.assertEqual(bench.leave(0), 1)
            else:
                self.check_refused(bench, errors.Unsafe(depth), bench.leave, 0)
            self.check_told(((1, 2), 3, 1, ()), Bench(LEAP, ("stays",)).depths())

    def test_an_attempt_that_ends_well(self):
        bench, seen = SafeBench(BY_KEYS, None, 1), []

        def watch(held):
            seen.append((held.plan, held.first_unsafe(1, None)))

        self.assertEqual(bench.attempt([("leave", 0), ("leave", 1), ("keep", 0)], watch=watch), 3)
        self.check_told([(("stays", "kept"), 1), (("stays", "stays"), 1), (("kept", "stays"), None)], seen)
        self.check_told((("kept", "stays"), 1), (bench.plan, len(bench)))

    def test_an_attempt_that_does_not_end_well(self):
        for items in ([("leave", 0)], [("leave", 1), ("leave", 0)], [("leave", 0), ("keep", 0), ("turn", 0, 1), ("leave", 0)]):
            bench, calls = SafeBench(BY_KEYS, None, 1), []
            bench.leave(1)
            bench.undo()
            self.check_refused(bench, errors.Unsafe(1), bench.attempt, items)
            self.check_refused(bench, errors.Unsafe(1), bench.attempt, items, watch=calls.append)
            self.assertEqual(len(calls), len(items))
            self.assertEqual([bench.redo(), bench.leave(1)], [1, 2])

    def test_an_attempt_that_is_ended_by_its_watch(self):
        items = [("leave", 1), ("leave", 0), ("keep", 0)]
        for end, done in ((1, 1), (2, None), (3, 3)):
            bench = SafeBench(BY_KEYS, None, 1)
            calls = []

            def watch(held):
                calls.append(held.plan)
                return len(calls) == end

            if done is None:
                self.check_refused(bench, errors.Unsafe(1), bench.attempt, items, watch=watch)
            else:
                self.assertEqual(bench.attempt(items, watch=watch), done)
            self.assertEqual(len(calls), end)

    def test_an_item_that_is_refused_on_an_unsafe_way(self):
        bench = SafeBench(BY_KEYS, None, 1)
        self.check_refused(bench, errors.Rejected(1), bench.attempt, [("leave", 0), ("keep", 2)])
        with self.assertRaises(Odd):
            bench.attempt([("leave", 0)], watch=lambda held: Asked(Odd("odd")))
        self.check_told((("kept", "kept"), 0), (bench.plan, len(bench)))

    def test_busy_within_a_watch_of_an_unsafe_plan(self):
        bench, seen = SafeBench(BY_KEYS, None, 1), []

        def watch(held):
            self.check_raises(errors.Busy(), held.keep, 0)
            self.check_raises(errors.Busy(), held.undo)
            seen.append((held.depths(), held.first_unsafe(1, None)))

        self.assertEqual(bench.attempt([("leave", 0), ("keep", 0)], watch=watch), 2)
        self.check_told([(((), 1, 1, (0,)), 1), (((), 0, 1, ()), None)], seen)

    def test_undo_and_redo_never_refuse(self):
        bench = SafeBench(BY_KEYS, None, 1)
        bench.leave(1)
        bench.attempt([("leave", 0), ("keep", 1), ("keep", 0)])
        bench.make(1, 0)
        for _ in range(3):
            self.assertEqual([bench.undo(), bench.undo(), bench.undo()], [2, 1, 0])
            self.assertEqual([bench.redo(), bench.redo(), bench.redo()], [1, 2, 3])
        self.check_told(("kept", made(0)), bench.plan)

    def test_each_version_is_safe(self):
        for seed in range(25):
            numbers = Numbers(seed + 900)
            game = numbers.one_of((BY_KEYS, DROP_AND_TURN, LAMP, EXAMPLE, LEAP))
            low = numbers.below(4)
            bench = SafeBench(game, None, low, low + numbers.below(3))
            for _ in range(20):
                items = [UndoAndRedo.drawn_item(self, numbers, game) for _ in range(1 + numbers.below(3))]
                before = bench.plan
                try:
                    bench.attempt(items)
                except (errors.Rejected, errors.Unsafe):
                    self.check_told(before, bench.plan)
                self.assertIsNone(Bench(game, bench.plan).first_unsafe(bench.low, bench.high))


if __name__ == "__main__":
    unittest.main()
