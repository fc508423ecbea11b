"""The depths at which plans are safe, and tries that fail."""

import itertools
import unittest

from savedback.depths import depths, failing, is_safe, is_safe_within
from savedback.plans import tried
from savedback.steps import way_to
from tests.samples import COUNT, GAMES, SINK, STILL, SWAP, TURN, WHEEL
from tests.samples import CallCase, Numbers, drawn_games, drawn_plan, made
from tests.tries import BY_KEYS, DROP, DROP_AND_TURN, F0, LAMP, LEAP, LOCK, NEVER, OWN_GAMES, ROUNDS, SKIP, TAIL
from tests.tries import THREE_TURNS, Tries, fails_by_rows, gaps

ALL_SAFE = ((), 0, 1, ())

NONE_SAFE = ((), 0, 1, (0,))

END = 10 ** 30


def kept_plan(game):
    return ("kept",) * len(game[0])


def staying_plan(game):
    return ("stays",) * len(game[0])


def some_plans(game, seed, count=3):
    numbers = Numbers(seed)
    return [drawn_plan(numbers, game) for _ in range(count)]


def small_games(count):
    return [game for game in drawn_games(count) if game[0] in ((2,), (3,), (2, 2)) and game[1] < 3]


# A game and a plan for each kind of depths.
KINDS = (
    (LEAP, ("stays",), ((1, 2), 3, 1, ())),
    (DROP, ("stays", "stays"), ((1, 2, 3, 4, 5), 6, 1, ())),
    (DROP, ("kept", "stays"), ((1, 2, 3, 4, 5, 6), 7, 1, ())),
    (DROP_AND_TURN, ("stays", "stays"), ((1, 2), 3, 2, (1,))),
    (DROP_AND_TURN, ("kept", "stays"), ((), 0, 2, (1,))),
    (THREE_TURNS, ("kept", "stays"), ((), 0, 60, tuple(range(1, 60)))),
    (SKIP, ("kept", "stays"), ((), 1, 1, (0,))),
    (gaps(5), ("kept", "stays", "kept"), ((5, 6, 10, 11, 12, 15, 16, 17, 18), 20, 1, (0,))),
    (gaps(4), ("kept", "stays", "kept"), ((), 3, 2, (0,))),
    (gaps(3), ("kept", "stays", "kept"), ((), 1, 3, (0,))),
    (TAIL, ("stays",), ((), 0, 5, (1, 2, 3, 4))),
    (LOCK, ("stays", "kept"), ((), 1, 1, (0,))),
    (SINK, ("stays", "stays", "stays"), (tuple(range(1, 23)), 23, 1, ())),
    (LAMP, ("kept", "kept", "stays"), ((), 1, 1, (0,))),
    (TURN, ("stays",), ((), 0, 2, (1,))),
    (TURN, (made(0),), NONE_SAFE),
    (TURN, ("kept",), ALL_SAFE),
    (COUNT, (made(("field", 1)), "kept"), ALL_SAFE),
    (COUNT, ("kept", "stays"), ((), 0, 4, (1, 2, 3))),
    (STILL, ("stays",), ALL_SAFE),
    (STILL, (made(0),), ALL_SAFE),
    (STILL, (made(1),), NONE_SAFE),
    (BY_KEYS, ("kept", "stays"), ALL_SAFE),
    (BY_KEYS, ("stays", "kept"), ((), 1, 1, (0,))),
    (BY_KEYS, ("kept", made(0)), ((0,), 1, 1, ())),
    (BY_KEYS, ("kept", made(1)), ((0,), 1, 1, ())),
    (NEVER, ("stays",), ((), 1, 1, (0,))),
    (WHEEL, ("stays", "kept"), ((), 1, 1, (0,))),
    (SWAP, ("stays", "kept", "kept", "kept"), ((), 1, 1, (0,))),
)


class Examples(unittest.TestCase):
    def test_example(self):
        game = ((4,), 2, (0,), (("if", ("same", "key", 1), (("set", 0, 3),), (("if", ("less", 0, ("field", 0)), (("set", 0, ("minus", ("field", 0), 1)),), ()),)),))
        turn = ((2,), 1, (0,), (("set", 0, ("minus", 1, ("field", 0))),))
        told = [depths(game, ("stays",)), is_safe(game, ("stays",), 3), is_safe_within(game, ("stays",), 1, None), failing(game, ("stays",), 1), depths(turn, ("stays",)), failing(turn, ("stays",), 2), is_safe(turn, (("made", 0),), 10 ** 30)]
        self.assertEqual(repr(told), "[((1, 2), 3, 1, ()), True, False, ((), (1,), (0,)), ((), 0, 2, (1,)), None, False]")


class Depths(CallCase):
    def check(self, game, plan, expected):
        with self.subTest(game=game, plan=plan):
            self.check_call(expected, depths, game, plan)

    def test_each_kind(self):
        for game, plan, expected in KINDS:
            self.check(game, plan, expected)

    def test_a_plan_that_keeps_all_fields(self):
        for game in GAMES + OWN_GAMES + tuple(drawn_games(60)):
            self.check(game, kept_plan(game), ALL_SAFE)

    def test_all_depths_but_the_multiples_of_a_number(self):
        for size in (2, 3, 4, 5, 6, 12, 24):
            self.check(ROUNDS[size], staying_plan(ROUNDS[size]), ((), 0, size, tuple(range(1, size))))

    def test_a_round_of_some_fields(self):
        self.check(ROUNDS[12], ("kept", "stays"), ((), 0, 6, (1, 2, 3, 4, 5)))
        self.check(ROUNDS[24], ("kept", "stays"), ((), 0, 6, (1, 2, 3, 4, 5)))
        self.check(ROUNDS[24], ("stays", "kept"), ((), 0, 24, tuple(range(1, 24))))

    def test_the_first_world_counts_and_worlds_that_are_not_reached_do_not(self):
        # Field 0 never changes, so it is made right in one half of the worlds alone.
        for first, number in itertools.product(range(2), repeat=2):
            game = ((2, 2), 2, (first, 0), (("set", 1, "key"),))
            self.check(game, (made(number), "kept"), ALL_SAFE if first == number else NONE_SAFE)
        self.check(NEVER, ("kept",), ALL_SAFE)
        for number in range(3):
            self.check(NEVER, (made(number),), NONE_SAFE)

    def test_made_fields_that_come_right(self):
        game = ((2, 3), 2, (0, 0), (("set", 1, ("plus", "key", F0)), ("set", 0, ("minus", 1, F0))))
        for number in range(3):
            self.check(game, ("kept", made(number)), ((0,), 1, 1, ()))
            self.check(game, ("stays", made(number)), ((0,), 1, 2, (1,)))
        self.check(game, ("kept", made(F0)), ((0,), 1, 1, ()))
        self.check(game, (made(1), "stays"), NONE_SAFE)

    def test_as_found_otherwise(self):
        kinds = set()
        for seed, game in enumerate(GAMES + OWN_GAMES + tuple(drawn_games(120))):
            if game == SKIP:
                continue
            for plan in some_plans(game, seed) + [staying_plan(game)]:
                expected = Tries(game, plan).told()
                self.check(game, plan, expected)
                early, start, period, late = expected
                kinds.add((bool(early), min(start, 3), min(period, 3), bool(late)))
        self.assertLessEqual({
            (False, 0, 1, False), (False, 0, 1, True), (False, 0, 2, True), (False, 0, 3, True), (False, 1, 1, True),
            (True, 1, 1, False), (True, 2, 1, False), (True, 3, 1, False), (True, 3, 2, True),
        }, kinds)

    def test_lots_as_found_otherwise(self):
        for game in (THREE_TURNS, gaps(5), gaps(4), gaps(3), gaps(2), LAMP, DROP, DROP_AND_TURN, SINK):
            for plan in itertools.product(("kept", "stays"), repeat=len(game[0])):
                self.check(game, plan, Tries(game, plan).told())

    def test_worlds_that_come_again_late(self):
        """Only behind some 500 keys the sets of worlds of this game recur."""
        tries = Tries(SKIP, ("stays", "kept"))
        self.assertGreater(len(tries.failing), 500)
        self.check(SKIP, ("stays", "kept"), tries.told())

    def test_one_two_and_three_keys(self):
        for keys in (1, 2, 3):
            game = ((4, 6), keys, (0, 0), (("set", 1, ("plus", ("field", 1), ("plus", "key", 1))),))
            expected = {1: ((), 0, 6, (1, 2, 3, 4, 5)), 2: ((), 1, 1, (0,)), 3: ((), 1, 1, (0,))}[keys]
            self.check(game, ("kept", "stays"), expected)
            self.check(game, ("stays", "kept"), ALL_SAFE)

    def test_as_rows_tell(self):
        for seed, game in enumerate(small_games(150)):
            for plan in some_plans(game, seed, 2):
                tries = Tries(game, plan)
                for depth in range(4):
                    self.assertEqual(fails_by_rows(game, plan, depth), bool(tries.failing_at(depth)), (game, plan, depth))

    def test_the_same_call_with_another_one_between(self):
        first = depths(DROP, ("stays", "stays"))
        depths(DROP_AND_TURN, ("stays", "stays"))
        is_safe(DROP, ("kept", "kept"), 3)
        self.assertEqual(depths(DROP, ("stays", "stays")), first)


class IsSafe(CallCase):
    def check(self, game, plan, depth, expected):
        with self.subTest(game=game, plan=plan, depth=depth):
            self.check_call(expected, is_safe, game, plan, depth)

    def test_as_depths_tells(self):
        for game, plan, (early, start, period, late) in KINDS:
            for depth in sorted({0, 1, 2, 3, max(start - 1, 0), start, start + 1, start + period - 1, start + period, 60, 400}):
                expected = depth not in early if depth < start else depth % period not in late
                self.check(game, plan, depth, expected)

    def test_great_depths(self):
        for size in (2, 3, 4, 5, 6, 12, 24):
            for depth in (END, END - 1, END - END % size, END - END % size - 1, 10 ** 29 + 7):
                self.check(ROUNDS[size], staying_plan(ROUNDS[size]), depth, depth % size == 0)
        for depth in (END - END % 60, END - END % 60 - 1):
            self.check(THREE_TURNS, ("kept", "stays"), depth, depth % 60 == 0)
        self.check(DROP, ("stays", "stays"), END, True)
        self.check(gaps(5), ("kept", "stays", "kept"), END, False)

    def test_depth_0(self):
        for game in GAMES + OWN_GAMES:
            for plan in itertools.product(("kept", "stays"), repeat=len(game[0])):
                self.assertIs(is_safe(game, plan, 0), True)
        self.check(STILL, (made(1),), 0, False)
        self.check(STILL, (made(-2),), 0, True)
        self.check(BY_KEYS, ("kept", made(0)), 0, False)

    def test_as_found_otherwise(self):
        for seed, game in enumerate(GAMES + tuple(drawn_games(80))):
            for plan in some_plans(game, seed, 1):
                tries = Tries(game, plan)
                for depth in (0, 1, 2, 3, 7, 50, 10 ** 6 + 1, END):
                    self.check(game, plan, depth, not tries.failing_at(depth))


class IsSafeWithin(CallCase):
    def check(self, game, plan, low, high, expected):
        with self.subTest(game=game, plan=plan, low=low, high=high):
            self.check_call(expected, is_safe_within, game, plan, low, high)

    def test_stretches_as_single_depths_tell(self):
        for game, plan in (
            (DROP, ("stays", "stays")), (DROP_AND_TURN, ("stays", "stays")), (gaps(5), ("kept", "stays", "kept")),
            (gaps(4), ("kept", "stays", "kept")), (BY_KEYS, ("kept", made(0))), (ROUNDS[5], ("stays",)), (STILL, (made(1),)),
        ):
            tries = Tries(game, plan)
            safe = [not tries.failing_at(depth) for depth in range(30)]
            for low in range(24):
                for high in sorted({low, low + 1, low + 2, low + 5, 23, 29}):
                    if high >= low:
                        self.check(game, plan, low, high, all(safe[low:high + 1]))

    def test_without_an_end(self):
        for game, plan, (early, start, period, late) in KINDS:
            for low in sorted({0, 1, 2, 5, 6, 7, 19, 20, 21, start, start + period, END}):
                expected = not late and not any(depth >= low for depth in early)
                self.check(game, plan, low, None, expected)

    def test_low_and_high_the_same(self):
        for game, plan, _ in KINDS:
            for depth in (0, 1, 2, 5, 6, 23, 24, 60, END):
                self.check(game, plan, depth, depth, is_safe(game, plan, depth))

    def test_between_two_unsafe_depths(self):
        plan = ("kept", "stays", "kept")
        self.check(gaps(5), plan, 7, 9, True)
        self.check(gaps(5), plan, 6, 9, False)
        self.check(gaps(5), plan, 7, 10, False)
        self.check(gaps(5), plan, 13, 14, True)
        self.check(gaps(5), plan, 19, 19, True)
        self.check(gaps(5), plan, 0, 4, True)
        self.check(gaps(5), plan, 0, 5, False)
        self.check(gaps(5), plan, 19, 20, False)
        self.check(gaps(4), plan, 0, 3, True)
        self.check(gaps(4), plan, 3, 4, False)
        self.check(gaps(4), plan, 5, 5, True)

    def test_below_start_across_it_and_beyond_it(self):
        plan = ("stays", "stays")
        self.check(DROP, plan, 0, 0, True)
        self.check(DROP, plan, 0, 1, False)
        self.check(DROP, plan, 3, 4, False)
        self.check(DROP, plan, 5, 6, False)
        self.check(DROP, plan, 5, END, False)
        self.check(DROP, plan, 6, END, True)
        self.check(DROP, plan, 6, None, True)
        self.check(DROP_AND_TURN, plan, 2, 2, False)
        self.check(DROP_AND_TURN, plan, 4, 4, True)
        self.check(DROP_AND_TURN, plan, 4, 5, False)

    def test_longer_than_a_period_and_far_away(self):
        plan = ("kept", "stays")
        base = END - END % 60 - 600
        self.check(THREE_TURNS, plan, base, base, True)
        self.check(THREE_TURNS, plan, base - 1, base, False)
        self.check(THREE_TURNS, plan, base, base + 1, False)
        self.check(THREE_TURNS, plan, base, base + 200, False)
        self.check(THREE_TURNS, plan, 0, END, False)
        self.check(ROUNDS[6], ("stays",), END, END, END % 6 == 0)
        self.check(ROUNDS[6], ("stays",), 0, END, False)
        self.check(STILL, ("stays",), 0, END, True)
        self.check(gaps(4), ("kept", "stays", "kept"), END - 1, END, False)
        self.check(gaps(4), ("kept", "stays", "kept"), END - 1, END - 1, True)


class Failing(CallCase):
    def check(self, game, plan, depth, tries):
        """Look at the try that is told, whichever it is, and at how far ahead one has to be."""
        told = failing(game, plan, depth)
        self.assertEqual(repr(failing(game, plan, depth)), repr(told))
        olds = tries.failing_at(depth)
        self.assertEqual(told is None, not olds, (game, plan, depth))
        if told is None:
            return
        self.assertIs(type(told), tuple)
        ahead, guessed, keys = told
        self.assertEqual((len(guessed), len(keys)), (depth, depth))
        self.assertTrue(all(type(row) is tuple for row in told))
        self.assertTrue(all(type(key) is int and 0 <= key < game[1] for row in told for key in row))
        _, _, _, due, got = tried(game, plan, ahead, guessed, keys)
        self.assertNotEqual(due, got, (game, plan, depth, told))
        self.assertEqual(len(ahead), min(len(way_to(game, old)) for old in olds), (game, plan, depth))

    def check_depths(self, game, plan, chosen):
        tries = Tries(game, plan)
        for depth in chosen:
            with self.subTest(game=game, plan=plan, depth=depth):
                self.check(game, plan, depth, tries)

    def test_each_kind(self):
        for game, plan, _ in KINDS:
            if game != SKIP:
                self.check_depths(game, plan, range(61))

    def test_a_game_whose_worlds_come_again_late(self):
        self.check_depths(SKIP, ("kept", "stays"), (0, 1, 2, 24, 60))

    def test_drawn_games(self):
        for seed, game in enumerate(GAMES + OWN_GAMES + tuple(drawn_games(100))):
            for plan in some_plans(game, seed, 2):
                if game != SKIP:
                    self.check_depths(game, plan, (0, 1, 2, 3, 5, 60))

    def test_none_is_told_as_none(self):
        self.check_call(None, failing, STILL, ("stays",), 60)
        self.check_call(None, failing, TURN, ("stays",), 0)
        self.check_call(None, failing, DROP, ("stays", "stays"), 6)

    def test_the_only_try(self):
        self.check_call(((), (), ()), failing, STILL, (made(1),), 0)
        self.check_call(((), (0,) * 59, (0,) * 59), failing, TURN, ("stays",), 59)
        self.check_call(((0,), (), ()), failing, ((2,), 1, (0,), (("set", 0, 1),)), (made(0),), 0)

    def test_several_keys_ahead(self):
        """The first world does not fail at these depths, but a far one does."""
        plan = ("kept", "kept", "stays")
        for depth in range(1, 61):
            self.assertEqual(len(failing(LAMP, plan, depth)[0]), max(12 - depth, 0))
        self.check_depths(LAMP, plan, range(14))
        # Behind six keys field 0 is 1 for the first time.
        self.assertEqual(failing(ROUNDS[12], (made(0), "kept"), 0), ((0,) * 6, (), ()))
        self.assertEqual(failing(ROUNDS[24], (made(0), "kept"), 0), ((0,) * 6, (), ()))
        self.assertEqual(failing(ROUNDS[6], (made(0),), 3)[0], (0,))

    def test_of_equal_length_ahead_any_will_do(self):
        game = ((3,), 3, (0,), (("if", ("same", F0, 0), (("set", 0, "key"),), ()),))
        self.check_depths(game, (made(0),), (0, 1, 5))
        self.check_depths(game, (made(1),), (0, 1, 5))


class Rows(unittest.TestCase):
    def test_no_shorter_row_ahead_fails(self):
        """All rows ahead that are shorter are walked, with all rows guessed and keys."""
        step = ("if", ("less", F0, 3), (("set", 0, ("plus", F0, 1)),), (("set", 1, ("plus", ("field", 1), "key")),))
        small_lamp = ((4, 2), 2, (0, 0), (step,))
        for game, plan, depth, least in (
            (small_lamp, ("kept", "stays"), 1, 3), (small_lamp, ("kept", "stays"), 2, 2), (small_lamp, ("kept", "stays"), 3, 1),
            (ROUNDS[4], (made(0),), 0, 1), (ROUNDS[12], (made(0), "kept"), 2, 6),
        ):
            self.assertEqual(len(failing(game, plan, depth)[0]), least)
            rows = list(itertools.product(range(game[1]), repeat=depth))
            for length in range(least):
                for shorter in itertools.product(range(game[1]), repeat=length):
                    for guessed, keys in itertools.product(rows, rows):
                        _, _, _, due, got = tried(game, plan, shorter, guessed, keys)
                        self.assertEqual(due, got)


if __name__ == "__main__":
    unittest.main()
