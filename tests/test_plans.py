"""Plans of games, worlds that are taken back by them, and tries."""

import itertools
import unittest

from savedback.plans import plan_error, taken_back, tried
from savedback.steps import walk
from tests.samples import COUNT, EXAMPLE, FULL, GAMES, ODD_VALUES, SINK, STILL, SWAP, TURN, WHEEL
from tests.samples import CallCase, Numbers, drawn_games, drawn_plan, drawn_row, made, parts, python_step
from tests.samples import replaced, value_back, worlds_of

FOUR = ((2, 2, 2, 3), 2, (0, 0, 0, 0), (("set", 3, ("plus", ("field", 0), "key")),))

FIELD = ("field", 0)


class Example(unittest.TestCase):
    def test_example(self):
        game = ((2, 3), 2, (0, 0), (("set", 1, ("plus", ("field", 1), "key")), ("if", ("same", "key", 1), (("set", 0, ("minus", 1, ("field", 0))),), ())))
        told = [plan_error(game, ("stays", ("made", ("field", 0)))), taken_back(game, ("kept", ("made", ("plus", 2, ("field", 0)))), (1, 2), (0, 1)), tried(game, ("kept", "stays"), (1,), (1, 1), (0, 1))]
        self.assertEqual(repr(told), "[(1, 'made'), (1, 0), ((1, 1), (1, 0), (1, 0), (0, 2), (0, 1))]")


class PlanCase(CallCase):
    def check(self, game, value, expected):
        self.check_call(expected, plan_error, game, value)

    def check_all(self, game, values, expected):
        for value in values:
            with self.subTest(value=value):
                self.check(game, value, expected)


class Plans(PlanCase):
    def test_kept_and_staying_fields(self):
        for game in (STILL, EXAMPLE, FULL, FOUR):
            self.check_all(game, itertools.product(("kept", "stays"), repeat=len(game[0])), None)

    def test_made_of_integers(self):
        for number in range(-9, 10):
            self.check_all(EXAMPLE, ((made(number), "stays"), (made(number), made(-number))), None)
            self.check(EXAMPLE, ("kept", made(("times", number, number))), None)
        self.check(TURN, (made(("minus", ("plus", 1, 2), ("times", -9, 9))),), None)

    def test_made_of_kept_fields(self):
        for field, other in itertools.permutations(range(4), 2):
            plan = replaced(("stays",) * 4, (field,), made(("field", other)))
            self.check(FOUR, replaced(plan, (other,), "kept"), None)
        for expression in (
            ("plus", ("field", 0), ("field", 3)), ("minus", ("times", 9, ("field", 0)), ("plus", ("field", 3), ("field", 0))),
            ("times", -9, ("times", -9, ("field", 3))), ("minus", ("plus", 1, 9), ("field", 3)),
        ):
            self.check(FOUR, ("kept", made(expression), "stays", "kept"), None)
            self.check(FOUR, ("kept", made(expression), made(expression), "kept"), None)

    def test_drawn_plans(self):
        numbers = Numbers(5)
        for game in GAMES + tuple(drawn_games(100)):
            for _ in range(5):
                self.check(game, drawn_plan(numbers, game), None)

    def test_the_block_and_the_first_world_tell_nothing(self):
        plan = ("kept", made(FIELD))
        for game in (EXAMPLE, COUNT):
            self.check(game, plan, None)
            self.check(game[:1] + (1, (1, 1), ()), plan, None)


class NoPlans(PlanCase):
    def test_no_tuple(self):
        wrong = [value for value in ODD_VALUES if not isinstance(value, tuple)]
        wrong += [0, 2, "kept", "ks", ["kept", "kept"], ["kept"], {0: "kept", 1: "kept"}, {"kept": "kept", "stays": "kept"}]
        self.check_all(EXAMPLE, wrong, (None, "plan"))

    def test_another_length(self):
        for game in (TURN, EXAMPLE, FULL, FOUR):
            for length in range(7):
                if length != len(game[0]):
                    self.check(game, ("kept",) * length, (None, "plan"))
                    self.check(game, (None,) * length, (None, "plan"))
                    self.check(game, (made(FIELD),) * length, (None, "plan"))
        self.check(EXAMPLE, ("kept",) * 8000, (None, "plan"))
        self.check(EXAMPLE, made(1) + ("kept",), (None, "plan"))
        self.check(EXAMPLE, (("kept", "kept"),), (None, "plan"))

    def test_no_ways(self):
        wrong = ODD_VALUES + (
            0, 1, "Kept", "keep", "stay", "leave", "made", "kept ", ["kept"], ("kept",), ("stays",), ["made", 1],
            ("made",), ("made", 1, 1), ("Made", 1), ("make", 1), ("kept", 1), ("stays", 1), (None, 1), (["made"], 1),
            (("made",), 1), (1, "made"), {"made": 1}, "made 1", ("made", 1, ()),
        )
        for way in wrong:
            self.check(EXAMPLE, (way, "kept"), (0, "way"))
            self.check(EXAMPLE, ("stays", way), (1, "way"))
            self.check(TURN, (way,), (0, "way"))

    def test_no_expressions(self):
        wrong = ODD_VALUES + (
            10, -10, "a", "1", "field", "Key", [1], {1: 1}, (1,), ["field", 0], ("field", 2), ("field", -1),
            ("field", True), ("field", False), ("field", "a"), ("field", None), ("field", (0,)), ("field", 0, 0),
            ("Field", 0), ("plus",), ("plus", 1), ("plus", 1, 1, 1), ["plus", 1, 1], ("plus", [1], 1),
            ("plus", 1, None), ("plus", 1, ["field", 0]), ("minus", True, 1), ("minus", 1, False), ("minus", 10, 1),
            ("minus", 1, -10), ("over", 1, 1), (None, 1, 1), ([], 1, 1), ("times", 1), ("times", 10, 1),
            ("times", -10, 1), ("times", True, 1), ("times", 1, True), ("times", 1, 10), ("times", FIELD, 1),
            ("less", 1, 1), ("same", 1, 1), ("not", ("same", 1, 1)), ("stop",), ("set", 0, 1), "kept", ("made", 1),
            ("plus", FIELD, ("field", 2)), ("plus", ("times", 1, ("field", -1)), 1), ("times", 2, [1]),
        )
        for expression in wrong:
            with self.subTest(expression=expression):
                self.check(EXAMPLE, ("kept", made(expression)), (1, "way"))
                self.check(EXAMPLE, (made(expression), "kept"), (0, "way"))

    def test_key(self):
        for expression in (
            "key", ("plus", "key", 1), ("plus", 1, "key"), ("minus", FIELD, "key"), ("minus", "key", FIELD), ("times", 0, "key"),
            ("plus", ("plus", "key", 1), 1), ("plus", 1, ("minus", 1, "key")), ("minus", FIELD, ("times", 9, "key")),
        ):
            with self.subTest(expression=expression):
                self.check(EXAMPLE, ("kept", made(expression)), (1, "way"))
                self.check(EXAMPLE, (made(expression), "stays"), (0, "way"))

    def test_expressions_too_deep(self):
        for kind, inner in itertools.product(("plus", "minus", "times"), (1, FIELD)):
            expression = inner
            for depth in range(1, 9):
                with self.subTest(kind=kind, inner=inner, depth=depth):
                    self.check(EXAMPLE, ("kept", made(expression)), None if depth <= 3 else (1, "way"))
                expression = (kind, 1, expression)
        self.check(EXAMPLE, ("kept", made(("plus", ("minus", ("plus", 1, 1), 1), 1))), (1, "way"))

    def test_fields_that_only_other_games_have(self):
        self.check(FOUR, ("kept", "kept", "kept", made(("field", 2))), None)
        self.check(FULL, ("kept", "kept", made(("field", 1))), None)
        self.check(FULL, ("kept", "kept", made(("field", 3))), (2, "way"))
        self.check(FOUR, ("kept", "kept", "kept", made(("field", 4))), (3, "way"))
        self.check(TURN, (made(("field", 1)),), (0, "way"))

    def test_bools_in_the_place_of_integers(self):
        plan = ("kept", made(("minus", ("times", 1, ("field", 0)), ("plus", 1, 0))), made(1), "stays")
        for path, part in list(parts(plan)):
            if isinstance(part, int):
                for wrong in (True, False):
                    self.check(FOUR, replaced(plan, path, wrong), (path[0], "way"))

    def test_lists_in_the_place_of_tuples(self):
        plan = ("kept", made(("minus", ("times", 1, ("field", 0)), ("plus", 1, 0))), made(1), "stays")
        for path, part in list(parts(plan)):
            if isinstance(part, tuple):
                self.check(FOUR, replaced(plan, path, list(part)), (path[0], "way") if path else (None, "plan"))

    def test_values_of_every_kind_in_the_place_of_each_part(self):
        plan = (made(("minus", ("times", 1, ("field", 1)), ("plus", 1, 0))), "kept", "stays", made(("field", 1)))
        for path, part in list(parts(plan)):
            for odd in (None, (), [], {}, "", "key\n", 10 ** 59, -(10 ** 59), [part], {"key": part}, (part,)):
                self.check(FOUR, replaced(plan, path, odd), (path[0], "way") if path else (None, "plan"))

    def test_a_value_that_is_nested_deeply(self):
        nested = ()
        for _ in range(22):
            nested = (nested,)
        listed, added = [], 1
        for _ in range(22):
            listed, added = [listed], ("plus", 1, added)
        for deep in (nested, listed, added, ("plus", nested, listed), ("times", 1, nested)):
            self.check_all(EXAMPLE, (("kept", deep), ("kept", made(deep)), (("kept",) + (made(deep),))), (1, "way"))


class NotMade(PlanCase):
    def test_fields_that_stay_or_are_made(self):
        for field, other in itertools.permutations(range(4), 2):
            plan = replaced(("kept",) * 4, (field,), made(("field", other)))
            for way in ("stays", made(1)):
                self.check(FOUR, replaced(plan, (other,), way), (field, "made"))

    def test_fields_that_are_made_of_each_other(self):
        for field, other in itertools.permutations(range(4), 2):
            plan = replaced(("kept",) * 4, (field,), made(("field", other)))
            self.check(FOUR, replaced(plan, (other,), made(("field", field))), (min(field, other), "made"))

    def test_the_field_itself(self):
        for field in range(4):
            for expression in (("field", field), ("plus", 1, ("field", field)), ("times", 2, ("minus", ("field", field), 1))):
                self.check(FOUR, replaced(("kept",) * 4, (field,), made(expression)), (field, "made"))
        self.check(TURN, (made(FIELD),), (0, "made"))

    def test_each_place_in_the_expression(self):
        for expression in (
            ("field", 1), ("plus", ("field", 1), 1), ("plus", 1, ("field", 1)), ("minus", ("field", 0), ("field", 1)),
            ("minus", ("field", 1), ("field", 0)), ("times", 0, ("field", 1)), ("plus", ("plus", ("field", 1), 0), 0),
            ("plus", 0, ("minus", 0, ("field", 1))), ("plus", ("plus", 0, ("field", 1)), ("field", 0)),
            ("times", 1, ("times", 1, ("field", 1))),
        ):
            for way in ("stays", made(0)):
                self.check(FULL, ("kept", way, made(expression)), (2, "made"))
            self.check(FULL, ("kept", "kept", made(expression)), None)

    def test_the_first_one_is_told(self):
        self.check(FULL, (made(("field", 1)), "stays", made(("field", 1))), (0, "made"))
        self.check(FULL, ("stays", made(FIELD), made(FIELD)), (1, "made"))
        self.check(FULL, ("kept", made(FIELD), made(("field", 1))), (2, "made"))

    def test_way_goes_ahead_of_made(self):
        self.check(FULL, (made(("field", 1)), "stays", None), (2, "way"))
        self.check(FULL, (made(("field", 1)), "stays", made("key")), (2, "way"))
        self.check(FULL, (made(("field", 1)), "stays", made(("field", 3))), (2, "way"))
        self.check(FULL, (made(("field", 1)), "sits", "kept"), (1, "way"))
        self.check(FULL, (None, "stays", made(("field", 1))), (0, "way"))
        self.check(FULL, (made(("field", 1)), None, made("key")), (1, "way"))

    def test_plan_goes_ahead_of_way(self):
        self.check(FULL, (None, "stays"), (None, "plan"))
        self.check(FULL, [None, "stays", "stays"], (None, "plan"))
        self.check(FULL, (made(FIELD), "stays", None, "kept"), (None, "plan"))


class TakenBack(CallCase):
    def check(self, game, plan, old, now, expected):
        with self.subTest(plan=plan, old=old, now=now):
            self.assertIsNone(plan_error(game, plan))
            self.check_call(expected, taken_back, game, plan, old, now)

    def test_all_kept(self):
        for game in (TURN, EXAMPLE, FULL):
            for old, now in itertools.product(worlds_of(game), repeat=2):
                self.check(game, ("kept",) * len(game[0]), old, now, old)

    def test_all_stay(self):
        for game in (TURN, EXAMPLE, FULL):
            for old, now in itertools.product(worlds_of(game), repeat=2):
                self.check(game, ("stays",) * len(game[0]), old, now, now)

    def test_kept_and_staying(self):
        self.check(FOUR, ("kept", "stays", "kept", "stays"), (1, 1, 1, 2), (0, 0, 0, 1), (1, 0, 1, 1))
        self.check(FOUR, ("stays", "kept", "stays", "kept"), (1, 1, 1, 2), (0, 0, 0, 1), (0, 1, 0, 2))

    def test_made_by_the_rest(self):
        for number in range(-9, 10):
            self.check(WHEEL, (made(number), made(number)), (3, 5), (1, 1), (number % 4, number % 6))
        self.check(WHEEL, ("stays", made(-9)), (0, 0), (3, 5), (3, 3))
        self.check(WHEEL, (made(-1), "kept"), (0, 4), (0, 0), (3, 4))
        self.check(WHEEL, (made(6), "kept"), (0, 4), (0, 0), (2, 4))

    def test_made_of_the_values_in_old(self):
        for old, now in itertools.product(worlds_of(WHEEL), ((0, 0), (3, 5))):
            self.check(WHEEL, ("kept", made(FIELD)), old, now, (old[0], old[0]))
            self.check(WHEEL, (made(("field", 1)), "kept"), old, now, (old[1] % 4, old[1]))
            self.check(WHEEL, (made(("minus", 0, ("field", 1))), "kept"), old, now, (-old[1] % 4, old[1]))
            self.check(WHEEL, ("kept", made(("times", -9, ("plus", FIELD, 2)))), old, now, (old[0], (-9 * old[0] - 18) % 6))

    def test_made_ahead_of_and_behind_the_field_that_is_kept(self):
        plan = (made(("field", 1)), "kept", made(("minus", 1, ("field", 1))), "stays")
        self.check(FOUR, plan, (0, 1, 1, 2), (0, 0, 0, 1), (1, 1, 0, 1))
        self.check(FOUR, plan, (1, 0, 0, 2), (0, 1, 0, 0), (0, 0, 1, 0))

    def test_worlds_that_are_not_reached(self):
        self.check(COUNT, ("kept", "stays"), (1, 0), (0, 3), (1, 3))
        self.check(STILL, ("kept",), (1,), (0,), (1,))

    def test_as_found_otherwise(self):
        numbers = Numbers(17)
        for game in GAMES + tuple(drawn_games(120)):
            for _ in range(4):
                plan = drawn_plan(numbers, game)
                old, now = numbers.one_of(worlds_of(game)), numbers.one_of(worlds_of(game))
                expected = tuple(value_back(game, way, field, old, now) for field, way in enumerate(plan))
                self.check(game, plan, old, now, expected)


class Tried(CallCase):
    def check(self, game, plan, rows, expected):
        with self.subTest(game=game, plan=plan):
            self.assertIsNone(plan_error(game, plan))
            self.check_call(expected, tried, game, plan, *rows)

    def test_no_keys(self):
        for game in GAMES:
            plan = ("stays",) * len(game[0])
            self.check(game, plan, ((), (), ()), (game[2],) * 5)
        self.check(TURN, (made(1),), ((), (), ()), ((0,), (0,), (1,), (0,), (1,)))
        self.check(TURN, (made(1),), ((0,), (), ()), ((1,), (1,), (1,), (1,), (1,)))

    def test_worlds_written_out(self):
        self.check(WHEEL, ("stays", "stays"), ((1,), (0,), (2,)), ((3, 3), (3, 4), (3, 4), (3, 2), (3, 3)))
        self.check(WHEEL, ("kept", "stays"), ((), (1, 0), (2, 2)), ((2, 3), (3, 4), (2, 4), (2, 1), (2, 2)))
        self.check(WHEEL, (made(("field", 1)), "kept"), ((2,), (0,), (1,)), ((2, 2), (2, 3), (2, 2), (3, 2), (3, 2)))
        self.check(WHEEL, (made(-1), "stays"), ((2, 2), (0,), (0,)), ((2, 1), (2, 2), (3, 2), (2, 2), (3, 3)))
        self.check(COUNT, ("stays", "kept"), ((0, 0), (0,), (0,)), ((0, 2), (1, 3), (1, 2), (1, 3), (1, 3)))

    def test_guessed_and_keys_begin_at_the_same_world(self):
        self.check(EXAMPLE, ("kept", "kept"), ((1,), (1, 1), (0, 1)), ((1, 1), (1, 0), (1, 1), (0, 2), (0, 2)))
        self.check(EXAMPLE, ("stays", "kept"), ((1,), (1,), (0,)), ((1, 1), (0, 2), (0, 1), (1, 1), (0, 1)))

    def test_all_kept_never_fails(self):
        numbers = Numbers(3)
        for game in GAMES + tuple(drawn_games(100)):
            for depth in (0, 1, 2, 9):
                rows = [drawn_row(numbers, game, length) for length in (numbers.below(12), depth, depth)]
                old, _, back, due, got = tried(game, ("kept",) * len(game[0]), *rows)
                self.assertEqual((old, due), (back, got))

    def test_as_found_otherwise(self):
        numbers = Numbers(29)
        for game in GAMES + tuple(drawn_games(120)):
            step = python_step(game)
            for ahead, depth in ((0, 1), (1, 0), (2, 3), (7, 5), (0, 400), (400, 0), (400, 400)):
                plan = drawn_plan(numbers, game)
                rows = [drawn_row(numbers, game, length) for length in (ahead, depth, depth)]

                def behind(world, keys):
                    for key in keys:
                        world = step(world, key)
                    return world

                old = behind(game[2], rows[0])
                now = behind(old, rows[1])
                back = tuple(value_back(game, way, field, old, now) for field, way in enumerate(plan))
                self.check(game, plan, rows, (old, now, back, behind(old, rows[2]), behind(back, rows[2])))

    def test_the_same_call_with_another_one_between(self):
        given = (SINK, ("kept", "stays", "kept"), (0, 0), (0,), (0,))
        first = tried(*given)
        tried(SWAP, ("stays",) * 4, (1,), (0, 1), (1, 0))
        walk(SINK, (0, 2, 0), (0, 0))
        self.assertEqual(tried(*given), first)


if __name__ == "__main__":
    unittest.main()
