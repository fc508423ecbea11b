"""How long two worlds can be unlike, for one pair and as a table that can be checked."""

import itertools
import unittest

from savedback.pairs import table, table_holds, unlike_for
from savedback.steps import walk
from tests.samples import EXAMPLE, FALL, FULL, GAMES, ODD_VALUES, SINK, STILL, SWAP, TURN, WHEEL
from tests.samples import CallCase, drawn_games, parts, python_steps, replaced, worlds_of

FIELD = ("field", 0)

COUNT_DOWN = ("if", ("less", 0, FIELD), (("set", 0, ("minus", FIELD, 1)),), ())

# Keys 0 and 2 go to 0, key 1 counts down.
LATE_FALL = ((4,), 3, (0,), (("if", ("same", "key", 1), (COUNT_DOWN,), (("set", 0, 0),)),))

# Keys 0 and 1 count down, key 2 goes to 0.
BOTH_FALL = ((4,), 3, (0,), (("if", ("less", "key", 2), (COUNT_DOWN,), (("set", 0, 0),)),))

# Behind one key all worlds are the same.
MEET = ((3, 2), 2, (0, 0), (("set", 0, "key"), ("set", 1, 1)))

# Keys 1 and 2 keep two worlds unlike for ever, key 0 does not.
EVER = ((3,), 3, (0,), (("if", ("same", "key", 0), (("set", 0, 0),), (("set", 0, ("plus", FIELD, "key")),)),))

OWN_GAMES = (LATE_FALL, BOTH_FALL, MEET, EVER)


def pairs_of(game):
    return list(itertools.combinations(worlds_of(game), 2))


class Reference:
    """What unlike_for and the table have to tell, from the sets of pairs unlike behind n keys."""

    def __init__(self, game):
        self.behind = {}
        steps = python_steps(game)
        for one, other in pairs_of(game):
            self.behind[(one, other)] = [tuple(sorted(pair)) for pair in zip(steps[one], steps[other])]
        self.greatest = {pair: None for pair in self.behind}
        unlike, n = set(self.behind), 0
        # Whoever is unlike behind as many keys as there are pairs has met one pair twice.
        while unlike and n <= len(self.behind):
            after = {pair for pair in self.behind if any(met in unlike for met in self.behind[pair])}
            for pair in unlike - after:
                self.greatest[pair] = n
            unlike, n = after, n + 1

    def right_keys(self, pair):
        """All that the key of this pair's row may be."""
        n = self.greatest[pair]
        if n == 0:
            return [None]
        wanted = None if n is None else n - 1
        return [
            key for key, after in enumerate(self.behind[pair])
            if after in self.greatest and self.greatest[after] == wanted
        ]

    def table(self):
        return tuple(pair + (self.greatest[pair], self.right_keys(pair)[0]) for pair in self.behind)


def some(items, count):
    """About this many of the items, spread over them."""
    items = list(items)
    return items[::max(1, len(items) // count)]


def in_lists(value):
    return [in_lists(item) for item in value] if isinstance(value, tuple) else value


class Examples(unittest.TestCase):
    def test_worlds_that_meet(self):
        game = ((4,), 2, (0,), (("if", ("same", "key", 1), (("set", 0, 0),), (("if", ("less", 0, ("field", 0)), (("set", 0, ("minus", ("field", 0), 1)),), ()),)),))
        told = [unlike_for(game, (0,), (3,)), unlike_for(game, (2,), (2,)), table(game)[:2], table_holds(game, table(game)), table_holds(game, ())]
        self.assertEqual(repr(told), "[2, -1, (((0,), (1,), 0, None), ((0,), (2,), 1, 0)), True, False]")

    def test_worlds_that_never_meet(self):
        turn = ((2,), 1, (0,), (("set", 0, ("minus", 1, ("field", 0))),))
        told = [unlike_for(turn, (0,), (1,)), table(turn)]
        self.assertEqual(repr(told), "[None, (((0,), (1,), None, 0),)]")


class UnlikeFor(CallCase):
    def check(self, game, one, other, expected):
        with self.subTest(game=game, one=one, other=other):
            self.check_call(expected, unlike_for, game, one, other)
            self.check_call(expected, unlike_for, game, other, one)

    def test_the_same_world(self):
        for game in GAMES + OWN_GAMES:
            for world in worlds_of(game):
                self.check(game, world, world, -1)

    def test_unlike_now_but_not_behind_a_key(self):
        for one, other in pairs_of(MEET):
            self.check(MEET, one, other, 0)
        self.check(FALL, (0,), (1,), 0)

    def test_numbers_above_0(self):
        for game in (FALL, LATE_FALL, BOTH_FALL):
            for one, other in itertools.combinations(range(4), 2):
                self.check(game, (one,), (other,), other - 1)

    def test_the_greatest_number_of_a_game_that_goes_through_all_worlds(self):
        worlds = worlds_of(SINK)
        for (at, one), (end, other) in itertools.combinations(enumerate(worlds), 2):
            if at == 0 or end == 23:
                self.check(SINK, one, other, end - 1)

    def test_none(self):
        self.check(TURN, (0,), (1,), None)
        self.check(STILL, (0,), (1,), None)
        for one, other in itertools.combinations(range(3), 2):
            self.check(EVER, (one,), (other,), None)
        for one, other in itertools.islice(pairs_of(WHEEL), 0, None, 23):
            self.check(WHEEL, one, other, None)

    def test_none_where_only_the_worlds_behind_never_meet(self):
        # 0 and 1 are exchanged for ever, 2 and 4 go to 0, and 3 goes to 1.
        ends = (1, 0, 0, 1, 0)
        block = tuple(("if", ("same", FIELD, at), (("set", 0, end), ("stop",)), ()) for at, end in enumerate(ends))
        for one, other in itertools.combinations(range(5), 2):
            self.check(((5,), 1, (0,), block), (one,), (other,), 0 if ends[one] == ends[other] else None)

    def test_worlds_that_are_not_reached(self):
        for one, other in itertools.combinations(range(1, 4), 2):
            self.check(FALL, (one,), (other,), other - 1)
        self.check(SWAP, (1, 1, 1, 0), (1, 1, 1, 1), None)

    def test_as_rows_of_keys_tell(self):
        for game in [game for game in OWN_GAMES + tuple(drawn_games(200)) if len(worlds_of(game)) <= 4]:
            pairs = pairs_of(game)
            most = len(pairs) if game[1] < 3 else min(len(pairs), 6)
            for one, other in pairs:
                lengths = [
                    n for n in range(most + 1)
                    if any(walk(game, one, row)[-1] != walk(game, other, row)[-1] for row in itertools.product(range(game[1]), repeat=n))
                ]
                self.assertEqual(lengths, list(range(len(lengths))))
                self.check(game, one, other, None if len(lengths) > most else lengths[-1])

    def test_as_found_otherwise(self):
        for game in GAMES + OWN_GAMES + tuple(drawn_games(120)):
            for pair, expected in some(Reference(game).greatest.items(), 6):
                self.check(game, *pair, expected)


class Table(CallCase):
    def test_rows_written_out(self):
        for game, rows in (
            (STILL, (((0,), (1,), None, 0),)),
            (FALL, (
                ((0,), (1,), 0, None), ((0,), (2,), 1, 0), ((0,), (3,), 2, 0),
                ((1,), (2,), 1, 0), ((1,), (3,), 2, 0), ((2,), (3,), 2, 0),
            )),
            (LATE_FALL, (
                ((0,), (1,), 0, None), ((0,), (2,), 1, 1), ((0,), (3,), 2, 1),
                ((1,), (2,), 1, 1), ((1,), (3,), 2, 1), ((2,), (3,), 2, 1),
            )),
            (EVER, (((0,), (1,), None, 1), ((0,), (2,), None, 1), ((1,), (2,), None, 1))),
            (((2,), 3, (1,), (("set", 0, "key"),)), (((0,), (1,), 0, None),)),
        ):
            with self.subTest(game=game):
                self.check_call(rows, table, game)

    def test_the_least_right_key(self):
        self.assertEqual([key for _, _, _, key in table(BOTH_FALL)], [None, 0, 0, 0, 0, 0])

    def test_a_row_for_each_pair_in_ascending_order(self):
        for game in GAMES + OWN_GAMES + tuple(drawn_games(40)):
            told = table(game)
            self.assertEqual([row[:2] for row in told], pairs_of(game))
            self.assertEqual(len(told), len(worlds_of(game)) * (len(worlds_of(game)) - 1) // 2)

    def test_numbers_are_those_of_unlike_for(self):
        for game in GAMES + OWN_GAMES:
            for one, other, n, _ in table(game)[::11]:
                self.assertEqual(repr(unlike_for(game, one, other)), repr(n))

    def test_as_found_otherwise(self):
        numbers, sizes = set(), set()
        for game in GAMES + OWN_GAMES + tuple(drawn_games(120)):
            with self.subTest(game=game):
                expected = Reference(game).table()
                self.check_call(expected, table, game)
                sizes.add(len(expected))
                numbers |= {n for _, _, n, _ in expected}
        self.assertTrue({1, 276} <= sizes)
        self.assertTrue({None, 0, 1, 2, 22} <= numbers)

    def test_the_way_that_a_row_tells(self):
        """Along the keys of the rows two worlds stay unlike as long as told."""
        for game in (FALL, LATE_FALL, EXAMPLE, FULL, SINK, WHEEL):
            behind = python_steps(game)
            rows = {(one, other): (n, key) for one, other, n, key in table(game)}
            for pair in rows:
                count = 0
                while rows[pair][1] is not None and count <= 300:
                    key = rows[pair][1]
                    pair = tuple(sorted(behind[world][key] for world in pair))
                    count += 1
                self.assertTrue(rows[pair][0] == 0 or count > 300)


class Holds(CallCase):
    def check(self, game, value, expected):
        self.check_call(expected, table_holds, game, value)

    def check_none(self, game, values):
        for value in values:
            with self.subTest(game=game, value=value):
                self.check(game, value, False)

    def test_the_table(self):
        for game in GAMES + OWN_GAMES + tuple(drawn_games(80)):
            with self.subTest(game=game):
                self.check(game, table(game), True)

    def test_any_right_key_in_the_place_of_the_least_one(self):
        others = 0
        for game in GAMES + OWN_GAMES + tuple(drawn_games(60)):
            reference, right = Reference(game), table(game)
            for at, pair in some(enumerate(reference.behind), 3):
                keys = reference.right_keys(pair)
                others += len(keys) - 1
                for key in (None, -1, 0, 1, 2, 3):
                    with self.subTest(game=game, pair=pair, key=key):
                        self.check(game, replaced(right, (at, 3), key), key in keys)
        self.assertGreater(others, 50)

    def test_other_right_keys_in_all_rows(self):
        rows = [list(row) for row in table(BOTH_FALL)]
        for row in rows[1:]:
            row[3] = 1
        self.check(BOTH_FALL, tuple(map(tuple, rows)), True)
        rows[5][3] = 2
        self.check(BOTH_FALL, tuple(map(tuple, rows)), False)

    def test_another_number(self):
        for game in (FALL, EVER, MEET, TURN, SINK):
            right = table(game)
            for at, row in some(enumerate(right), 5):
                for n in (None, -2, -1, 0, 1, 2, 3, 22, 23, 10 ** 59):
                    for key in (None, 0, 1):
                        value = right[:at] + (row[:2] + (n, key),) + right[at + 1:]
                        if n != row[2]:
                            self.check_none(game, [value])

    def test_numbers_that_are_off_by_one_in_all_rows(self):
        for by in (1, -1):
            self.check_none(FALL, [tuple(row[:2] + (row[2] + by, row[3]) for row in table(FALL))])
            self.check_none(FALL, [tuple(row[:2] + (row[2] + by, 0) for row in table(FALL))])

    def test_all_rows_of_a_small_game(self):
        """What is accepted is so, whoever made it."""
        for size, keys, block in (
            (3, 2, FALL[3]), (3, 3, EVER[3]), (2, 1, TURN[3]), (2, 2, FALL[3]), (3, 1, (("set", 0, ("times", 2, FIELD)),)),
        ):
            game = ((size,), keys, (0,), block)
            told = Reference(game)
            rows = [[pair + row for row in itertools.product((None, 0, 1), (None, 0, 1))] for pair in told.behind]
            accepted = [value for value in itertools.product(*rows) if table_holds(game, value)]
            right = [[pair + (told.greatest[pair], key) for key in told.right_keys(pair) if key != 2] for pair in told.behind]
            self.assertEqual(accepted, list(itertools.product(*right)))

    def test_bools_are_no_integers(self):
        for game in (FALL, LATE_FALL, EXAMPLE, TURN):
            right = table(game)
            for path, part in list(parts(right)):
                if isinstance(part, int):
                    self.check_none(game, [replaced(right, path, True), replaced(right, path, False)])

    def test_other_parts(self):
        for game in (FALL, TURN, EXAMPLE):
            right = table(game)
            for path, part in list(parts(right)):
                others = ODD_VALUES + ((0,), (1, 0), [0], "0", -1, 7, {0: 0}, right)
                wrong = [replaced(right, path, other) for other in others if other is not None or part is not None]
                # None is no number, but no number stands where there is no greatest one.
                self.check_none(game, [value for value in wrong if value != right])

    def test_lists_in_the_place_of_tuples(self):
        for game in (FALL, TURN, EXAMPLE, STILL):
            right = table(game)
            self.check_none(game, [in_lists(right), list(right), tuple(in_lists(right)), tuple(map(list, right))])
            for path, part in list(parts(right)):
                if isinstance(part, tuple):
                    self.check_none(game, [replaced(right, path, list(part))])

    def test_worlds_exchanged(self):
        for game in (FALL, TURN, EXAMPLE):
            right = table(game)
            turned = [(other, one, n, key) for one, other, n, key in right]
            self.check_none(game, [tuple(turned), tuple(sorted(turned))])
            for at, row in enumerate(turned):
                self.check_none(game, [right[:at] + (row,) + right[at + 1:]])

    def test_worlds_of_other_pairs(self):
        right = table(FALL)
        for at, index, world in itertools.product(range(6), (0, 1), range(-1, 5)):
            if right[at][index] != (world,):
                self.check_none(FALL, [replaced(right, (at, index), (world,))])
        self.check_none(FALL, [replaced(right, (0, 1), (0,)), replaced(right, (0, 1), (0, 1)), replaced(right, (0, 1), ())])

    def test_rows_left_out_twice_or_in_another_order(self):
        for game in (FALL, EXAMPLE, TURN):
            right = table(game)
            self.check_none(game, [(), right * 2, right + right[:1], right[:1] + right, right + ((),), right + (None,)])
            for at, row in enumerate(right):
                self.check_none(game, [right[:at] + right[at + 1:], right[:at] + (row,) + right[at:]])
                if at:
                    self.check_none(game, [right[:at - 1] + (row, right[at - 1]) + right[at + 1:]])
                    self.check_none(game, [right[:at - 1] + (row, row) + right[at + 1:]])
            if len(right) > 1:
                self.check_none(game, [right[::-1]])

    def test_rows_of_another_length(self):
        right = table(FALL)
        for at, row in enumerate(right):
            for wrong in (row[:3], row + (None,), row + (0,), row[:2], (), (row,)):
                self.check_none(FALL, [replaced(right, (at,), wrong)])

    def test_the_table_of_another_game(self):
        for game, other in itertools.permutations((FALL, LATE_FALL, EVER, TURN, STILL, EXAMPLE, SINK, WHEEL, SWAP), 2):
            if {game, other} != {TURN, STILL}:
                self.check_none(game, [table(other)])
        # These have the same table, so it is right for both.
        self.check(TURN, table(STILL), True)
        self.check(LATE_FALL, table(BOTH_FALL), False)
        self.check(BOTH_FALL, table(LATE_FALL), True)

    def test_games_of_24_worlds(self):
        for game in (SINK, WHEEL):
            right = table(game)
            for at in (0, 1, 137, 274, 275):
                n = right[at][2]
                for wrong in (0 if n is None else n + 1, 5 if n is None else n - 1, None if n is not None else 1):
                    self.check_none(game, [replaced(right, (at, 2), wrong)])
                self.check_none(game, [replaced(right, (at, 3), 3), replaced(right, (at, 3), True), right[:at] + right[at + 1:]])

    def test_values_of_every_other_kind(self):
        for game in (FALL, TURN, WHEEL):
            right = table(game)
            self.check_none(game, ODD_VALUES + (0, 1, "((0,), (1,), 0, None)", repr(right)))
            self.check_none(game, [(right,), [right], {0: right}, dict(enumerate(right)), "x" * len(right)])
            nested = ()
            for _ in range(22):
                nested = (nested,)
            for row in (None, 0, (), "four", nested, [nested], (None,) * 4, (nested,) * 4, [0, 1, 0, None]):
                self.check_none(game, [(row,) * len(right)])


if __name__ == "__main__":
    unittest.main()
