"""Ways by which fields are made of others, and rows of keys that part two games."""

import itertools
import unittest

from savedback.makings import made_of, unlike_games
from savedback.plans import plan_error, taken_back
from savedback.steps import reached, walk
from tests.samples import COUNT, EXAMPLE, FALL, GAMES, SINK, STILL, SWAP, TURN, WHEEL
from tests.samples import CallCase, Numbers, drawn_games, made, parts, python_of, python_step, replaced
from tests.tries import F0, F1, F2, NEVER, NEXT, OWN_GAMES, ROUNDS, rows_of, when


def straight(factor, field, number):
    return made(("plus", ("times", factor, ("field", field)), number))


def ways_in_order(game, field, lot):
    size = game[0][field]
    yield from (made(number) for number in range(size))
    for other in lot:
        for factor, number in itertools.product(range(1, size), range(size)):
            yield straight(factor, other, number)


def worlds_reached(game):
    step, worlds = python_step(game), [game[2]]
    for world in worlds:
        worlds.extend({step(world, key) for key in range(game[1])} - set(worlds))
    return worlds


def first_way(game, field, lot):
    worlds = worlds_reached(game)
    for way in ways_in_order(game, field, lot):
        if all(eval(python_of(way[1]), {"v": world}) % game[0][field] == world[field] for world in worlds):
            return way
    return None


def lots_without(game, field):
    others = [other for other in range(len(game[0])) if other != field]
    return [lot for count in range(len(others) + 1) for lot in itertools.combinations(others, count)]


def line(sizes, keys, sets):
    """A game whose fields come of field 0, which goes on by 1 and by the key."""
    block = (("set", 0, ("plus", F0, ("plus", "key", 1))),) + tuple(("set", field, each) for field, each in sets)
    return (sizes, keys, (0,) * len(sizes), block)


class Examples(unittest.TestCase):
    def test_ways(self):
        game = ((2, 4), 1, (0, 0), (("set", 1, ("plus", ("field", 1), 1)), ("set", 0, ("field", 1))))
        told = [made_of(game, 0, (1,)), made_of(game, 1, (0,)), made_of(game, 0, ()), made_of(((2, 2), 1, (1, 0), ()), 0, (1,))]
        self.assertEqual(repr(told), "[('made', ('plus', ('times', 1, ('field', 1)), 0)), None, None, ('made', 1)]")

    def test_games(self):
        turn, same = ((2,), 1, (0,), (("set", 0, ("minus", 1, ("field", 0))),)), ((2,), 1, (0,), (("set", 0, ("plus", ("field", 0), 1)),))
        told = [unlike_games(turn, same), unlike_games(turn, ((2,), 1, (0,), (("set", 0, 1),))), unlike_games(turn, ((2,), 1, (0,), ()))]
        self.assertEqual(repr(told), "[None, (0, 0), (0,)]")


class MadeOf(CallCase):
    def check(self, game, field, lot, expected):
        with self.subTest(game=game, field=field, lot=lot):
            self.check_call(expected, made_of, game, field, lot)

    def test_numbers(self):
        for first in worlds_reached(WHEEL):
            game = ((4, 6), 2, first, ())
            self.check(game, 0, (), made(first[0]))
            self.check(game, 1, (), made(first[1]))
            self.check(game, 0, (1,), made(first[0]))
            self.check(game, 1, (0,), made(first[1]))

    def test_the_least_number_ahead_of_a_field_that_would_do(self):
        # Both fields are 0 in all worlds that are reached, so the other field would do as well.
        self.check(((2, 2), 3, (0, 0), ()), 0, (1,), made(0))
        self.check(((2, 2, 2), 3, (1, 1, 1), ()), 1, (0, 2), made(1))

    def test_factor_1_and_number_0_are_written_out(self):
        self.check(COUNT, 0, (1,), straight(1, 1, 0))
        self.check(line((3, 3), 2, [(1, F0)]), 1, (0,), straight(1, 0, 0))

    def test_factors_and_numbers(self):
        for factor, number in itertools.product(range(1, 5), range(5)):
            sets = [(1, ("plus", ("times", factor, F0), number))]
            game = ((4, 5), 1, (3, (3 * factor + number) % 5), line((4, 5), 1, sets)[3])
            self.check(game, 1, (0,), straight(factor, 0, number))

    def test_by_field_then_by_factor_then_by_number(self):
        # Fields 1 and 2 both go with field 0; the first one of the lot is taken.
        game = line((3, 3, 2), 1, [(1, F0), (2, F0)])
        self.check(game, 0, (1, 2), straight(1, 1, 0))
        self.check(game, 0, (1,), straight(1, 1, 0))
        self.check(game, 1, (0, 2), straight(1, 0, 0))
        self.check(game, 2, (0, 1), straight(1, 0, 0))
        self.check(game, 0, (2,), None)
        # Here field 1 needs the factor 2, and field 2 the factor 1; field 1 stands ahead.
        game = line((3, 3, 3), 1, [(1, ("times", 2, F0)), (2, ("plus", F0, 1))])
        game = game[:2] + ((0, 0, 1),) + game[3:]
        self.check(game, 0, (1, 2), straight(2, 1, 0))
        self.check(game, 0, (2,), straight(1, 2, 2))
        self.check(game, 2, (0, 1), straight(1, 0, 1))
        self.check(game, 2, (1,), straight(2, 1, 1))
        # Field 1 is 0 or 3, so that the factor 1 with the number 0 and the factor 3 with it make the same.
        game = ((2, 6), 1, (0, 0), (("set", 0, ("plus", F0, 1)), ("set", 1, ("times", 3, F0))))
        self.check(game, 0, (1,), straight(1, 1, 0))
        self.check(game, 1, (0,), straight(3, 0, 0))

    def test_the_rest_of_what_is_above_the_size(self):
        game = line((5, 5), 1, [(1, ("times", 4, F0))])
        self.check(game, 1, (0,), straight(4, 0, 0))
        self.check(game, 0, (1,), straight(4, 1, 0))
        game = ((6, 4), 1, (0, 0), (("set", 0, ("plus", F0, 1)), ("set", 1, ("times", 3, F0))))
        self.check(game, 1, (0,), straight(3, 0, 0))

    def test_none(self):
        self.check(COUNT, 1, (0,), None)
        self.check(COUNT, 1, (), None)
        self.check(TURN, 0, (), None)
        for field, other in ((0, 1), (1, 0)):
            self.check(WHEEL, field, (other,), None)
        # The values 0, 1 and 1 are told by field 0, but not by its multiples.
        game = ((3, 2), 1, (0, 0), (("set", 0, ("plus", F0, 1)), ("if", ("same", F0, 0), (("set", 1, 0),), (("set", 1, 1),))))
        self.check(game, 1, (0,), None)

    def test_worlds_that_are_not_reached_do_not_count(self):
        self.check(STILL, 0, (), made(0))
        self.check(NEVER, 0, (), None)
        for key in range(2):
            game = ((3, 3), 2, (0, 0), (when(("same", "key", key), ("set", 0, 2), ("set", 1, 1)),))
            self.check(game, 0, (1,), straight(2, 1, 0))
            self.check(game, 1, (0,), straight(2, 0, 0))
        self.check(((3, 3), 2, (0, 0), (("set", 0, "key"), ("set", 1, ("times", 2, "key")))), 1, (0,), straight(2, 0, 0))

    def test_a_sum_of_two_fields_is_no_way(self):
        game = ((2, 2, 2), 2, (0, 0, 0), (("set", 0, ("plus", F0, "key")), ("set", 1, ("plus", F1, ("minus", 1, "key"))), ("set", 2, ("plus", F0, F1))))
        self.check(game, 2, (0, 1), None)

    def test_each_field_and_each_lot(self):
        found = set()
        for game in GAMES + OWN_GAMES + tuple(drawn_games(250)):
            for field in range(len(game[0])):
                for lot in lots_without(game, field):
                    expected = first_way(game, field, lot)
                    self.check(game, field, lot, expected)
                    found.add(None if expected is None else isinstance(expected[1], int))
        self.assertEqual(found, {None, True, False})

    def test_what_is_told_is_a_way_that_is_right(self):
        for game in GAMES + OWN_GAMES + tuple(drawn_games(60)):
            for field in range(len(game[0])):
                lot = lots_without(game, field)[-1]
                way = made_of(game, field, lot)
                if way is not None:
                    plan = replaced(("kept",) * len(game[0]), (field,), way)
                    self.assertIsNone(plan_error(game, plan))
                    for world in reached(game):
                        self.assertEqual(taken_back(game, plan, world, game[2]), world)


def first_row(one, other, most):
    """The first row of at most this many keys that parts the games, by going through all rows."""
    for length in range(most + 1):
        for row in rows_of(one, length):
            if walk(one, one[2], row)[-1] != walk(other, other[2], row)[-1]:
                return row
    return None


def changed_games(seed, game):
    """Games that are the same but for an integer or a word of a statement."""
    numbers = Numbers(seed)
    found = [(path, part) for path, part in parts(game[3]) if path and part in ("plus", "minus", "less", "same")]
    found += [(path, part) for path, part in parts(game[3]) if type(part) is int and path[-1] != 1]
    turned = {"plus": "minus", "minus": "plus", "less": "same", "same": "less"}
    for _ in range(3 if found else 0):
        path, part = numbers.one_of(found)
        yield game[:3] + (replaced(game[3], path, turned[part] if part in turned else (part + 10) % 19 - 9),)


def with_nots(game):
    """The same game with each test put the other way round."""
    def turned(block):
        return tuple(
            ("if", each[1][1] if each[1][0] == "not" else ("not", each[1]), turned(each[3]), turned(each[2]))
            if each[0] == "if" else each for each in block
        )

    return game[:3] + (turned(game[3]),)


class UnlikeGames(CallCase):
    def check(self, one, other, expected):
        with self.subTest(one=one, other=other):
            self.check_call(expected, unlike_games, one, other)
            self.check_call(expected, unlike_games, other, one)

    def test_the_same_game(self):
        for game in GAMES + OWN_GAMES + tuple(drawn_games(50)):
            self.check(game, game, None)

    def test_games_that_are_written_otherwise(self):
        for game in GAMES + OWN_GAMES + tuple(drawn_games(50)):
            self.check(game, with_nots(game), None)
            self.check(game, game[:3] + (game[3] + (("stop",), ("set", 0, 1)),), None)
            self.check(game, game[:3] + ((("set", 0, F0), ("if", ("same", 0, 1), (("set", 0, "key"),), ())) + game[3],), None)
        self.check(TURN, ((2,), 1, (0,), (("set", 0, ("minus", F0, -9)),)), None)

    def test_unlike_only_where_no_row_leads(self):
        self.check(STILL, ((2,), 1, (0,), (when(("same", F0, 1), ("set", 0, 0)),)), None)
        self.check(NEVER, NEVER[:3] + (NEVER[3] + (when(("same", F0, 1), ("set", 0, 0)),),), None)
        self.check(NEVER, NEVER[:3] + (NEVER[3] + (when(("same", F0, 2), ("set", 0, 0)),),), (1,))

    def test_behind_one_key(self):
        self.check(STILL, TURN, (0,))
        for key in range(3):
            one = ((3,), 3, (0,), ())
            self.check(one, one[:3] + ((when(("same", "key", key), ("set", 0, 1)),),), (key,))
            self.check(one, one[:3] + ((when(("less", "key", key), ("set", 0, 1)),),), (0,) if key else None)

    def test_several_keys(self):
        for size in (2, 3, 4, 5, 6):
            game = ROUNDS[size]
            for at in range(size):
                # This one stays in one of the worlds.
                other = game[:3] + ((when(("same", F0, at), ("stop",)),) + game[3],)
                self.check(game, other, (0,) * (at + 1))
        for game, at in ((ROUNDS[12], (1, 5)), (ROUNDS[24], (3, 5)), (ROUNDS[24], (2, 0))):
            stay = when(("same", F0, at[0]), when(("same", F1, at[1]), ("stop",)))
            self.check(game, game[:3] + ((stay,) + NEXT,), (0,) * (6 * at[0] + at[1] + 1))
        self.check(SINK, SINK[:3] + ((when(("same", F2, 1), when(("same", F1, 0), ("set", 2, 0))),) + SINK[3],), (0,) * 11)

    def test_the_first_one_of_the_shortest(self):
        one = ((4, 2), 3, (0, 0), (when(("less", F0, 3), ("set", 0, ("plus", F0, "key"))),))
        for at, expected in ((1, (1, 0)), (2, (2, 0)), (3, (1, 2, 0))):
            other = one[:3] + ((when(("same", F0, at), ("set", 1, 1)),) + one[3],)
            self.check(one, other, expected)
        same_end = ((3, 2), 3, (0, 0), (when(("less", 0, "key"), ("set", 0, "key")),))
        for at, expected in ((1, (1, 0)), (2, (2, 0))):
            other = same_end[:3] + ((when(("same", F0, at), ("set", 1, 1)),) + same_end[3],)
            self.check(same_end, other, expected)
        other = same_end[:3] + ((when(("less", 0, F0), when(("same", "key", 2), ("set", 1, 1))),) + same_end[3],)
        self.check(same_end, other, (1, 2))

    def test_as_all_rows_tell(self):
        lengths = set()
        for seed, game in enumerate(drawn_games(400)):
            if len(worlds_reached(game)) > 6 or game[1] == 3 and len(worlds_reached(game)) > 4:
                continue
            for other in changed_games(seed, game):
                expected = first_row(game, other, len(worlds_reached(game)))
                self.check(game, other, expected)
                lengths.add(None if expected is None else len(expected))
        self.assertLessEqual({None, 1, 2}, lengths)

    def test_the_same_call_with_another_one_between(self):
        one, other = ROUNDS[6], ROUNDS[6][:3] + ((when(("same", F0, 4), ("stop",)),) + ROUNDS[6][3],)
        first = unlike_games(one, other)
        unlike_games(FALL, FALL)
        made_of(SWAP, 0, (1, 2))
        made_of(EXAMPLE, 0, (1,))
        self.assertEqual(unlike_games(one, other), first)


if __name__ == "__main__":
    unittest.main()
