"""Steps, walks along rows of keys, the worlds that are reached, and fields told by others."""

import itertools
import unittest

from savedback.games import game_error
from savedback.steps import reached, step, told_by, walk, way_to
from tests.samples import COUNT, EXAMPLE, FULL, GAMES, SINK, STILL, SWAP, TURN, WHEEL
from tests.samples import CallCase, drawn_games, python_step, python_steps, worlds_of

STOP = ("stop",)
FIELD = ("field", 0)


def game_of(*block, sizes=(6, 3), keys=3):
    return (sizes, keys, (0,) * len(sizes), block)


def set_to(expression, field=0):
    return game_of(("set", field, expression))


def asked(test):
    """A game whose step sets field 1 to 1 if the test is true, otherwise to 2."""
    return game_of(("if", test, (("set", 1, 1),), (("set", 1, 2),)))


def if_key(key, yes=(), no=()):
    return ("if", ("same", "key", key), yes, no)


def shortest_ways(game):
    """The first of the shortest ways to each reached world, by making ways better while it goes."""
    behind = python_steps(game)
    ways = {game[2]: ()}
    better = True
    while better:
        better = False
        for world, key in itertools.product(list(ways), range(game[1])):
            after, way = behind[world][key], ways[world] + (key,)
            if after not in ways or (len(way), way) < (len(ways[after]), ways[after]):
                ways[after] = way
                better = True
    return ways


class Examples(unittest.TestCase):
    def test_steps(self):
        game = ((2, 3), 2, (0, 0), (("set", 1, ("plus", ("field", 1), "key")), ("if", ("same", "key", 1), (("set", 0, ("minus", 1, ("field", 0))),), ())))
        told = [step(game, (0, 2), 1), walk(game, (1, 0), (0, 1)), len(reached(game)), way_to(game, (0, 2)), way_to(((2,), 1, (0,), ()), (1,))]
        self.assertEqual(repr(told), "[(1, 0), ((1, 0), (1, 0), (0, 1)), 6, (1, 1), None]")

    def test_told_by(self):
        game = ((2, 4), 1, (0, 0), (("set", 1, ("plus", ("field", 1), 1)), ("set", 0, ("field", 1))))
        told = [told_by(game, 0, (1,)), told_by(game, 1, (0,)), told_by(game, 0, ())]
        self.assertEqual(repr(told), "[(((0,), 0), ((1,), 1), ((2,), 0), ((3,), 1)), None, None]")


class StepCase(CallCase):
    def check(self, game, world, key, expected):
        with self.subTest(game=game, world=world, key=key):
            self.assertIsNone(game_error(game))
            self.check_call(expected, step, game, world, key)


class Sets(StepCase):
    def test_no_statement(self):
        for world in worlds_of(game_of()):
            self.check(game_of(), world, 2, world)

    def test_integers_by_the_rest(self):
        for number in range(-9, 10):
            for size in (2, 3, 4, 5, 6):
                game = game_of(("set", 0, number), sizes=(size, 2))
                self.check(game, (1, 1), 0, (number % size, 1))

    def test_rests_written_out(self):
        for number, rest in ((-9, 3), (-7, 5), (-6, 0), (-1, 5), (0, 0), (5, 5), (6, 0), (9, 3)):
            self.check(set_to(number), (4, 1), 0, (rest, 1))

    def test_rest_is_by_the_size_of_the_field_that_is_set(self):
        self.check(set_to(4, 0), (0, 0), 0, (4, 0))
        self.check(set_to(4, 1), (0, 0), 0, (0, 1))
        self.check(set_to(("minus", 0, 4), 0), (0, 0), 0, (2, 0))
        self.check(set_to(("minus", 0, 4), 1), (0, 0), 0, (0, 2))

    def test_each_field(self):
        for field in range(4):
            game = game_of(("set", field, 1), sizes=(2, 2, 2, 3))
            self.check(game, (0, 0, 0, 2), 0, tuple(1 if at == field else (0, 0, 0, 2)[at] for at in range(4)))

    def test_key(self):
        for key in range(3):
            self.check(set_to("key"), (5, 2), key, (key, 2))
            self.check(game_of(("set", 0, "key"), sizes=(2,)), (0,), key, (key % 2,))
            self.check(set_to(("minus", ("times", 2, "key"), 1)), (0, 0), key, ((5, 1, 3)[key], 0))

    def test_field(self):
        for value in range(6):
            self.check(set_to(FIELD), (value, 1), 0, (value, 1))
            self.check(set_to(FIELD, 1), (value, 1), 0, (value, value % 3))

    def test_plus_and_minus(self):
        for one, other in itertools.product((-9, -1, 0, 2, 9), repeat=2):
            self.check(set_to(("plus", one, other)), (1, 1), 0, ((one + other) % 6, 1))
            self.check(set_to(("minus", one, other)), (1, 1), 0, ((one - other) % 6, 1))
        self.check(set_to(("minus", FIELD, ("field", 1))), (1, 2), 0, (5, 2))
        self.check(set_to(("minus", ("field", 1), FIELD)), (1, 2), 0, (1, 2))
        self.check(set_to(("minus", ("minus", 1, 2), ("minus", "key", 5))), (0, 0), 1, (3, 0))
        self.check(set_to(("plus", ("plus", FIELD, FIELD), ("plus", "key", "key"))), (1, 0), 1, (4, 0))

    def test_times_at_both_ends(self):
        for factor, rests in ((-9, (0, 3, 0, 3, 0, 3)), (9, (0, 3, 0, 3, 0, 3)), (-1, (0, 5, 4, 3, 2, 1)), (0, (0,) * 6)):
            for value, rest in enumerate(rests):
                self.check(set_to(("times", factor, FIELD)), (value, 0), 0, (rest, 0))
        self.check(set_to(("times", -9, ("times", 9, FIELD)), 1), (5, 2), 0, (5, 0))
        self.check(set_to(("times", -9, 9)), (0, 0), 0, (3, 0))
        self.check(game_of(("set", 0, ("times", -9, "key")), sizes=(5,)), (0,), 2, (2,))
        self.check(game_of(("set", 0, ("times", 9, "key")), sizes=(5,)), (0,), 2, (3,))

    def test_a_field_behind_the_statement_that_set_it(self):
        self.check(game_of(("set", 0, 4), ("set", 1, FIELD)), (0, 0), 0, (4, 1))
        self.check(game_of(("set", 1, FIELD), ("set", 0, 4)), (0, 0), 0, (4, 0))
        self.check(game_of(*[("set", 0, ("plus", FIELD, 1))] * 4), (0, 0), 0, (4, 0))
        # It has the rest then, not the value of the expression.
        self.check(game_of(("set", 0, 7), ("if", ("same", FIELD, 1), (("set", 1, 2),), ())), (0, 0), 0, (1, 2))
        self.check(game_of(("set", 0, 8), ("set", 1, FIELD)), (0, 0), 0, (2, 2))
        exchange = (("set", 1, FIELD), ("set", 0, ("field", 1)))
        self.check(game_of(*exchange, sizes=(3, 3)), (1, 2), 0, (1, 1))

    def test_a_field_in_a_test_behind_the_statement_that_set_it(self):
        block = (("set", 0, "key"), ("if", ("less", FIELD, 1), (("set", 1, 1), ("set", 0, 5)), (("set", 1, 2),)))
        self.check(game_of(*block), (3, 0), 0, (5, 1))
        self.check(game_of(*block), (0, 0), 1, (1, 2))


class Ifs(StepCase):
    def check_test(self, test, world, key, holds):
        self.check(asked(test), world, key, (world[0], 1 if holds else 2))

    def test_less(self):
        for one, other in itertools.product((-9, -1, 0, 1, 9), repeat=2):
            self.check_test(("less", one, other), (0, 0), 0, one < other)
        for value, key in itertools.product(range(6), range(3)):
            self.check_test(("less", FIELD, "key"), (value, 0), key, value < key)
            self.check_test(("less", "key", FIELD), (value, 0), key, key < value)

    def test_same(self):
        for one, other in itertools.product((-9, -1, 0, 1, 9), repeat=2):
            self.check_test(("same", one, other), (0, 0), 0, one == other)
        for value, key in itertools.product(range(6), range(3)):
            self.check_test(("same", FIELD, "key"), (value, 0), key, value == key)

    def test_values_in_tests_are_no_rests(self):
        self.check_test(("same", 6, 0), (0, 0), 0, False)
        self.check_test(("less", -1, 0), (0, 0), 0, True)
        self.check_test(("same", ("plus", FIELD, 6), FIELD), (3, 0), 0, False)
        self.check_test(("less", 9, ("times", 9, 9)), (0, 0), 0, True)
        self.check_test(("less", ("minus", 0, FIELD), 0), (1, 0), 0, True)

    def test_not(self):
        for one, other in itertools.product((0, 1, 2), repeat=2):
            for name, holds in (("less", one < other), ("same", one == other)):
                self.check_test(("not", (name, one, other)), (0, 0), 0, not holds)
                self.check_test(("not", ("not", (name, one, other))), (0, 0), 0, holds)

    def test_empty_blocks(self):
        for test in (("same", 0, 0), ("same", 0, 1)):
            self.check(game_of(("if", test, (), ()), ("set", 1, 1)), (2, 0), 0, (2, 1))
        self.check(game_of(if_key(1, (("set", 0, 3),)), ("set", 1, 1)), (2, 0), 0, (2, 1))
        self.check(game_of(if_key(0, (), (("set", 0, 3),)), ("set", 1, 1)), (2, 0), 0, (2, 1))

    def test_only_the_chosen_block_is_executed_and_then_what_follows(self):
        add = (("set", 0, ("plus", FIELD, 1)),)
        double = (("set", 0, ("times", 2, FIELD)),)
        game = game_of(if_key(1, add + double, double + add), *add)
        self.check(game, (1, 0), 1, (5, 0))
        self.check(game, (1, 0), 0, (4, 0))

    def test_the_test_is_asked_once(self):
        game = game_of(("if", ("same", FIELD, 0), (("set", 0, 1),), (("set", 0, 0),)))
        self.check(game, (0, 0), 0, (1, 0))
        self.check(game, (1, 0), 0, (0, 0))

    def test_ifs_in_ifs(self):
        less = [("less", FIELD, bound) for bound in (3, 1, 2)]
        marks = [("set", 1, value) for value in range(3)]
        inner = ("if", less[1], (marks[0],), (("if", less[2], (marks[1],), (marks[2],)),))
        game = game_of(("if", less[0], (inner,), (("set", 0, 0), ("if", ("same", "key", 2), (marks[1],), ()))))
        for world, key, expected in (
            ((0, 2), 0, (0, 0)), ((1, 2), 0, (1, 1)), ((2, 0), 0, (2, 2)),
            ((3, 0), 0, (0, 0)), ((3, 0), 2, (0, 1)), ((5, 2), 1, (0, 2)),
        ):
            self.check(game, world, key, expected)

    def test_three_ifs_in_one_another(self):
        add = ("set", 0, ("plus", FIELD, 1))
        block = (add,)
        for bound in (2, 1, 0):
            block = (("if", ("less", bound, FIELD), block, ()), add)
        for value, behind in enumerate((1, 3, 5, 1, 2, 3)):
            self.check(game_of(*block), (value, 0), 0, (behind, 0))


class Stops(StepCase):
    def test_alone(self):
        self.check(game_of(STOP), (3, 1), 0, (3, 1))

    def test_at_the_end(self):
        self.check(game_of(("set", 0, 2), STOP), (3, 1), 0, (2, 1))

    def test_what_stands_behind_it_is_not_executed(self):
        self.check(game_of(("set", 0, 2), STOP, ("set", 1, 0), STOP, ("set", 0, 0)), (3, 1), 0, (2, 1))

    def test_in_a_block(self):
        game = game_of(if_key(1, (("set", 0, 4), STOP, ("set", 0, 5))), ("set", 1, 0))
        self.check(game, (3, 1), 1, (4, 1))
        self.check(game, (3, 1), 0, (3, 0))
        game = game_of(if_key(1, (), (("set", 0, 4), STOP, ("set", 0, 5))), ("set", 1, 0))
        self.check(game, (3, 1), 0, (4, 1))
        self.check(game, (3, 1), 1, (3, 0))

    def test_within_several_blocks(self):
        for depth in (2, 3):
            for sides in itertools.product(("yes", "no"), repeat=depth):
                block = (("set", 0, 4), STOP, ("set", 0, 5))
                for side in sides:
                    inner = if_key(1, block) if side == "yes" else if_key(2, (), block)
                    block = (inner, ("set", 1, 2))
                self.check(game_of(*block), (3, 1), 1, (4, 1))
                self.check(game_of(*block), (3, 1), 2, (3, 2))

    def test_one_step_does_not_stop_the_next_one(self):
        game = game_of(("set", 0, ("plus", FIELD, 1)), STOP, ("set", 1, 1))
        self.check_call(((0, 0), (1, 0), (2, 0)), walk, game, (0, 0), (0, 0))


class AllSteps(StepCase):
    def test_as_python_executes_the_block(self):
        for game in GAMES + tuple(drawn_games(300)):
            expected = python_step(game)
            for world in worlds_of(game):
                for key in range(game[1]):
                    if step(game, world, key) != expected(world, key):
                        self.check(game, world, key, expected(world, key))

    def test_worlds_that_are_not_reached(self):
        self.check(STILL, (1,), 0, (1,))
        self.check((TURN[0], 1, (0,), (("set", 0, 0),)), (1,), 0, (0,))
        self.check(COUNT, (1, 0), 0, (1, 1))
        self.check(COUNT, (1, 3), 0, (0, 0))
        self.check(FULL, (1, 1, 1), 1, (1, 1, 1))

    def test_the_same_call_with_another_one_between(self):
        first = step(WHEEL, (3, 5), 0)
        self.assertEqual(step(WHEEL, (2, 5), 0), (3, 0))
        self.assertEqual(step(EXAMPLE, (1, 2), 1), (0, 0))
        self.assertEqual([first, step(WHEEL, (3, 5), 0)], [(0, 0), (0, 0)])

    def test_the_first_world_tells_nothing(self):
        for world, key in itertools.product(worlds_of(EXAMPLE), range(2)):
            told = [step(EXAMPLE[:2] + (first,) + EXAMPLE[3:], world, key) for first in worlds_of(EXAMPLE)]
            self.assertEqual(told, [step(EXAMPLE, world, key)] * 6)


class Walks(CallCase):
    def test_no_keys(self):
        for game in GAMES:
            for world in worlds_of(game):
                self.check_call((world,), walk, game, world, ())

    def test_one_key_is_one_step(self):
        for game in GAMES:
            for world, key in itertools.product(worlds_of(game), range(game[1])):
                self.check_call((world, step(game, world, key)), walk, game, world, (key,))

    def test_worlds_written_out(self):
        self.check_call(((0, 0), (1, 1), (0, 2), (0, 2), (1, 0)), walk, EXAMPLE, (0, 0), (1, 1, 0, 1))
        self.check_call(((0, 1, 1), (0, 1, 0), (0, 0, 3), (0, 0, 2)), walk, SINK, (0, 1, 1), (0, 0, 0))
        self.check_call(((3, 5), (0, 0), (1, 0), (1, 5)), walk, WHEEL, (3, 5), (0, 1, 2))

    def test_long_rows(self):
        for game in GAMES + tuple(drawn_games(30)):
            by_python = python_step(game)
            for length in (2, 3, 57, 399, 400):
                keys = tuple((at * at + at // 3) % game[1] for at in range(length))
                for world in (game[2], worlds_of(game)[-1]):
                    worlds = [world]
                    for key in keys:
                        worlds.append(by_python(worlds[-1], key))
                    told = walk(game, world, keys)
                    self.assertEqual(len(told), length + 1)
                    self.assertEqual(repr(told), repr(tuple(worlds)))

    def test_a_long_row_is_not_changed(self):
        self.check_call((TURN[2], (1,)) * 200 + (TURN[2],), walk, TURN, (0,), (0,) * 400)
        self.check_call(((1,),) * 401, walk, STILL, (1,), (0,) * 400)


class Reached(CallCase):
    def test_worlds_written_out(self):
        for game, worlds in (
            (TURN, ((0,), (1,))),
            (STILL, ((0,),)),
            (((2,), 3, (1,), ()), ((1,),)),
            (COUNT, ((0, 0), (0, 2), (1, 1), (1, 3))),
            (((6,), 1, (4,), (("set", 0, ("plus", FIELD, 2)),)), ((0,), (2,), (4,))),
            (((6,), 2, (5,), (("set", 0, "key"),)), ((0,), (1,), (5,))),
            (((3, 3), 3, (2, 1), (("set", 0, "key"),)), ((0, 1), (1, 1), (2, 1))),
            (WHEEL, tuple(worlds_of(WHEEL))),
        ):
            self.check_call(worlds, reached, game)

    def test_as_found_otherwise(self):
        for game in GAMES + tuple(drawn_games(300)):
            with self.subTest(game=game):
                self.check_call(tuple(sorted(shortest_ways(game))), reached, game)

    def test_numbers_of_worlds_and_keys(self):
        told = {(len(reached(game)), game[1]) for game in GAMES + tuple(drawn_games(300))}
        for keys in (1, 2, 3):
            self.assertTrue({1, 2, 3} <= {count for count, number in told if number == keys})
        self.assertIn((24, 3), told)
        self.assertIn((24, 1), told)


class Ways(CallCase):
    def test_no_keys_to_the_first_world(self):
        for game in GAMES + tuple(drawn_games(50)):
            self.check_call((), way_to, game, game[2])

    def test_none_to_worlds_that_are_not_reached(self):
        self.check_call(None, way_to, STILL, (1,))
        self.check_call(None, way_to, COUNT, (1, 0))
        self.check_call(None, way_to, ((6,), 3, (0,), (("set", 0, "key"),)), (3,))

    def test_ways_written_out(self):
        for game, world, way in (
            (TURN, (1,), (0,)),
            (COUNT, (1, 3), (0, 0, 0)),
            (WHEEL, (2, 2), (2,)),
            (WHEEL, (3, 2), (1, 2)),
            (WHEEL, (3, 0), (0, 0, 0)),
            (WHEEL, (0, 0), (0, 0, 0, 1)),
            (SINK, (0, 0, 0), (0,) * 23),
            # Both keys lead there: the lesser one is pressed.
            (((3,), 3, (0,), (if_key(0, (), (("set", 0, 1),)),)), (1,), (1,)),
            # (0, 2) and (1, 0) both lead there; (0, 2) is the first one.
            (((2, 2), 3, (0, 0), (if_key(1, (("set", 0, 1),)), if_key(0, (("set", 0, 1),)), ("if", ("same", FIELD, 1), (
                if_key(2, (("set", 1, 1),)),
            ), ()))), (1, 1), (0, 2)),
        ):
            self.check_call(way, way_to, game, world)

    def test_a_short_way_goes_ahead_of_a_long_one_that_is_less(self):
        game = ((6,), 2, (0,), (("if", ("same", "key", 1), (("set", 0, 3),), (("set", 0, ("plus", FIELD, 1)),)),))
        for value, way in enumerate(((), (0,), (0, 0), (1,), (1, 0), (1, 0, 0))):
            self.check_call(way, way_to, game, (value,))

    def test_as_found_otherwise(self):
        for game in GAMES + tuple(drawn_games(200)):
            ways = shortest_ways(game)
            for world in worlds_of(game):
                with self.subTest(game=game, world=world):
                    self.check_call(ways.get(world), way_to, game, world)

    def test_the_first_of_all_rows_of_keys(self):
        for game in [game for game in drawn_games(60) if len(reached(game)) <= 7]:
            missing = set(worlds_of(game))
            for length in range(7):
                for row in itertools.product(range(game[1]), repeat=length):
                    world = walk(game, game[2], row)[-1]
                    if world in missing:
                        missing.remove(world)
                        self.assertEqual(way_to(game, world), row)
            self.assertEqual([way_to(game, world) for world in missing], [None] * len(missing))


class ToldBy(CallCase):
    def others_of(self, game, field):
        fields = [other for other in range(len(game[0])) if other != field]
        for count in range(len(fields) + 1):
            yield from itertools.combinations(fields, count)

    def test_each_field_and_each_lot(self):
        told = set()
        for game in GAMES + tuple(drawn_games(150)):
            worlds = sorted(shortest_ways(game))
            for field in range(len(game[0])):
                for others in self.others_of(game, field):
                    pairs = {(tuple(world[other] for other in others), world[field]) for world in worlds}
                    unlike = len({values for values, _ in pairs}) < len(pairs)
                    expected = None if unlike else tuple(sorted(pairs))
                    told.add((len(others), unlike))
                    with self.subTest(game=game, field=field, others=others):
                        self.check_call(expected, told_by, game, field, others)
        self.assertEqual(told, set(itertools.product(range(4), (False, True))))

    def test_by_none(self):
        self.check_call((((), 0),), told_by, STILL, 0, ())
        self.check_call((((), 1),), told_by, ((2, 2), 1, (0, 1), (("set", 0, ("minus", 1, FIELD)),)), 1, ())
        self.check_call(None, told_by, TURN, 0, ())

    def test_by_a_field_in_another_order(self):
        game = ((4, 4), 1, (3, 0), (("set", 0, ("minus", FIELD, 1)), ("set", 1, ("minus", 3, FIELD))))
        self.check_call((((0,), 3), ((1,), 2), ((2,), 1), ((3,), 0)), told_by, game, 1, (0,))
        self.check_call((((0,), 3), ((1,), 2), ((2,), 1), ((3,), 0)), told_by, game, 0, (1,))

    def test_by_two_fields(self):
        pairs = tuple(((one, other), (one + other) % 2) for one in (0, 1) for other in (0, 1))
        block = (if_key(0, (("set", 0, ("minus", 1, FIELD)),), (("set", 2, ("minus", 1, ("field", 2))),)),
                 ("set", 1, ("plus", FIELD, ("field", 2))))
        game = ((2, 2, 2), 2, (0, 0, 0), block)
        self.check_call(pairs, told_by, game, 1, (0, 2))
        self.check_call(None, told_by, game, 1, (0,))
        self.check_call(None, told_by, game, 1, (2,))
        self.check_call(None, told_by, game, 1, ())

    def test_worlds_that_are_not_reached_tell_nothing(self):
        # In all worlds field 0 is not told by field 1, but only (0, 0) and (1, 1) are reached.
        game = ((2, 2), 2, (0, 0), (("set", 0, "key"), ("set", 1, "key")))
        self.check_call((((0,), 0), ((1,), 1)), told_by, game, 0, (1,))
        self.check_call(None, told_by, SWAP, 3, (0, 1))


if __name__ == "__main__":
    unittest.main()
