"""Pairs of rows that fail, counted, and tries whose rows have a beginning in common."""

import itertools
import unittest

from savedback.counting import failures, is_safe_shared
from savedback.depths import is_safe
from savedback.plans import tried
from tests.samples import COUNT, EXAMPLE, FALL, FULL, GAMES, SINK, STILL, SWAP, TURN, WHEEL
from tests.samples import CallCase, Numbers, drawn_games, drawn_plan, made, python_steps, value_back, worlds_of
from tests.tries import BY_KEYS, DROP, DROP_AND_TURN, F0, F1, LAMP, LEAP, NEVER, OWN_GAMES, ROUNDS, SKIP, THREE_TURNS
from tests.tries import Tries, gaps, rows_of, when


class Walked:
    """A game and a plan whose rows of keys are walked one after another."""

    def __init__(self, game, plan):
        self.game = game
        self.plan = plan
        self.steps = python_steps(game)
        self.olds = Tries(game, plan).olds

    def behind(self, world, keys):
        for key in keys:
            world = self.steps[world][key]
        return world

    def back(self, old, now):
        return tuple(value_back(self.game, way, field, old, now) for field, way in enumerate(self.plan))

    def failures(self, old, depth):
        rows = rows_of(self.game, depth)
        backs = [self.back(old, self.behind(old, guessed)) for guessed in rows]
        return sum(self.behind(old, keys) != self.behind(back, keys) for back in backs for keys in rows)

    def is_safe_shared(self, same, rest):
        rows = rows_of(self.game, rest)
        for old, begun in itertools.product(self.olds, rows_of(self.game, same)):
            fork = self.behind(old, begun)
            for guessed in rows:
                met = self.behind(self.back(old, self.behind(fork, guessed)), begun)
                if any(self.behind(fork, keys) != self.behind(met, keys) for keys in rows):
                    return False
        return True

    def failures_by_numbers(self, old, depth):
        """The failures by how many rows come to each world and to each two worlds, key by key."""
        counts = {old: 1}
        for _ in range(depth):
            counts = self.onward(counts, lambda world: self.steps[world])
        pairs = {}
        for now, count in counts.items():
            pair = (old, self.back(old, now))
            pairs[pair] = pairs.get(pair, 0) + count
        for _ in range(depth):
            pairs = self.onward(pairs, lambda pair: zip(self.steps[pair[0]], self.steps[pair[1]]))
        return sum(count for (due, got), count in pairs.items() if due != got)

    def onward(self, counts, afters):
        found = {}
        for place, count in counts.items():
            for after in afters(place):
                found[after] = found.get(after, 0) + count
        return found

    def is_safe_shared_by_sets(self, same, rest):
        unlike = {pair for pair in itertools.product(self.steps, repeat=2) if pair[0] != pair[1]}
        for _ in range(rest):
            unlike = {pair for pair in unlike if any(after in unlike for after in zip(*map(self.steps.get, pair)))}
        behind = {world: {world} for world in self.olds}
        for _ in range(rest):
            behind = {world: {now for after in set(self.steps[world]) for now in behind[after]} for world in behind}
        for old, back in itertools.product(self.olds, self.steps):
            pairs = {(old, back)}
            for _ in range(same):
                pairs = {after for one, other in pairs for after in zip(self.steps[one], self.steps[other])}
            for fork, met in pairs & unlike:
                if any(self.back(old, now) == back for now in behind[fork]):
                    return False
        return True


def some_plans(game, seed, count=2):
    numbers = Numbers(seed)
    return [drawn_plan(numbers, game) for _ in range(count)]


def kept_plan(game):
    return ("kept",) * len(game[0])


class Examples(unittest.TestCase):
    def test_failures(self):
        game = ((4,), 2, (0,), (("if", ("same", "key", 1), (("set", 0, 3),), (("if", ("less", 0, ("field", 0)), (("set", 0, ("minus", ("field", 0), 1)),), ()),)),))
        self.assertEqual(repr([failures(game, ("stays",), (0,), depth) for depth in range(4)]), "[0, 1, 2, 0]")

    def test_shared_beginnings(self):
        game = ((4,), 2, (0,), (("if", ("same", "key", 1), (("set", 0, 3),), (("if", ("less", 0, ("field", 0)), (("set", 0, ("minus", ("field", 0), 1)),), ()),)),))
        told = [is_safe_shared(game, ("stays",), 0, 1), is_safe_shared(game, ("stays",), 1, 0), is_safe_shared(game, ("stays",), 2, 1), is_safe_shared(game, ("kept",), 3, 3)]
        self.assertEqual(repr(told), "[False, False, True, True]")


class Failures(CallCase):
    def check(self, game, plan, old, depth, expected):
        with self.subTest(game=game, plan=plan, old=old, depth=depth):
            self.check_call(expected, failures, game, plan, old, depth)

    def test_as_all_pairs_of_rows_tell(self):
        keys, unreached = set(), 0
        for seed, game in enumerate((EXAMPLE, FALL, LEAP, FULL, SWAP, BY_KEYS, DROP, NEVER) + tuple(drawn_games(60))):
            numbers = Numbers(seed + 300)
            for plan in some_plans(game, seed):
                walked = Walked(game, plan)
                for depth in range(5 if game[1] < 3 else 4):
                    old = numbers.one_of(worlds_of(game))
                    unreached += old not in walked.olds
                    keys.add(game[1])
                    self.check(game, plan, old, depth, walked.failures(old, depth))
        self.assertEqual(keys, {1, 2, 3})
        self.assertGreater(unreached, 50)

    def test_three_keys_and_depth_4(self):
        for game, plan in ((FULL, ("stays", "kept", "stays")), (WHEEL, ("kept", "stays")), (THREE_TURNS, ("stays", "kept"))):
            self.check(game, plan, game[2], 4, Walked(game, plan).failures(game[2], 4))

    def test_as_tries_tell(self):
        for game, plan in ((LEAP, ("stays",)), (BY_KEYS, ("stays", made(1))), (EXAMPLE, ("kept", "stays"))):
            for depth in range(4):
                rows = rows_of(game, depth)
                told = [tried(game, plan, (), guessed, keys)[3:] for guessed in rows for keys in rows]
                self.check(game, plan, game[2], depth, sum(due != got for due, got in told))

    def test_depth_0(self):
        for game in GAMES:
            for world in worlds_of(game)[:4]:
                self.check(game, ("stays",) * len(game[0]), world, 0, 0)
        for number, world in itertools.product(range(2), range(2)):
            self.check(STILL, (made(number),), (world,), 0, int(number != world))

    def test_old_worlds_that_are_not_reached(self):
        self.check(STILL, (made(0),), (1,), 3, 1)
        self.check(STILL, (made(1),), (1,), 3, 0)
        self.check(NEVER, ("stays",), (1,), 3, 0)
        self.check(NEVER, (made(0),), (1,), 3, 2 ** 6)
        self.check(FALL, ("stays",), (2,), 1, 2)

    def test_all_pairs_fail(self):
        for keys, depth in itertools.product((1, 2, 3), (0, 1, 2, 10, 399, 400)):
            self.check(((2,), keys, (0,), ()), (made(1),), (0,), depth, keys ** (2 * depth))

    def test_none_fails(self):
        for game in (EXAMPLE, FULL, WHEEL, SKIP, SINK):
            for depth in (0, 1, 7, 400):
                self.check(game, kept_plan(game), worlds_of(game)[-1], depth, 0)
        self.check(SINK, ("stays",) * 3, (1, 2, 3), 23, 0)

    def test_great_depths(self):
        # Half of all guessed rows turn the field, whatever the keys.
        for depth in (1, 2, 50, 399, 400):
            for old in worlds_of(BY_KEYS):
                self.check(BY_KEYS, ("stays", "kept"), old, depth, 2 ** (2 * depth - 1))
        for depth in (399, 400):
            self.check(TURN, ("stays",), (1,), depth, depth % 2)
            self.check(ROUNDS[24], ("stays", "stays"), (0, 0), depth, int(depth % 24 != 0))

    def test_great_depths_by_numbers_of_rows(self):
        for seed, game in enumerate((EXAMPLE, FULL, SWAP, SKIP, gaps(5)) + tuple(drawn_games(12))):
            for plan in some_plans(game, seed + 40, 1) + [("stays",) * len(game[0])]:
                walked, old = Walked(game, plan), worlds_of(game)[seed % len(worlds_of(game))]
                for depth in (9, 100, 400):
                    expected = walked.failures_by_numbers(old, depth)
                    with self.subTest(game=game, plan=plan, depth=depth):
                        self.assertEqual(repr(failures(game, plan, old, depth)), repr(expected))

    def test_a_depth_is_safe_if_no_world_that_is_reached_has_failures(self):
        for seed, game in enumerate((LEAP, DROP, gaps(4), LAMP) + tuple(drawn_games(40))):
            for plan in some_plans(game, seed, 1):
                olds = Walked(game, plan).olds
                for depth in (0, 1, 2, 5):
                    counts = [failures(game, plan, old, depth) for old in olds]
                    self.assertIs(is_safe(game, plan, depth), not any(counts))


class SharedBeginnings(CallCase):
    def check(self, game, plan, same, rest, expected):
        with self.subTest(game=game, plan=plan, same=same, rest=rest):
            self.check_call(expected, is_safe_shared, game, plan, same, rest)

    def test_as_all_rows_tell(self):
        answers = set()
        for seed, game in enumerate((LEAP, BY_KEYS, DROP, DROP_AND_TURN, NEVER, COUNT, EXAMPLE) + tuple(drawn_games(90))):
            for plan in some_plans(game, seed):
                walked = Walked(game, plan)
                if len(walked.olds) > 8:
                    continue
                for same, rest in itertools.product(range(3), repeat=2):
                    expected = walked.is_safe_shared(same, rest)
                    self.check(game, plan, same, rest, expected)
                    answers.add((same, rest, expected))
        self.assertEqual(len(answers), 18)

    def test_none_shared(self):
        for seed, game in enumerate(GAMES + OWN_GAMES + tuple(drawn_games(40))):
            for plan in some_plans(game, seed, 1) + [("stays",) * len(game[0])]:
                for rest in (0, 1, 2, 3, 17, 60):
                    self.check(game, plan, 0, rest, is_safe(game, plan, rest))

    def test_all_shared(self):
        for game in GAMES + OWN_GAMES:
            for same in (0, 1, 2, 60):
                self.check(game, kept_plan(game), same, 0, True)
        # Behind no further keys nothing was guessed wrong, but what stays was not taken back.
        for same in range(8):
            self.check(LEAP, ("stays",), same, 0, same == 0 or same > 2)
            self.check(TURN, ("stays",), same, 0, same % 2 == 0)
            self.check(STILL, ("stays",), same, 0, True)
            self.check(STILL, (made(1),), same, 0, False)
            self.check(DROP, ("stays", "stays"), same, 0, same == 0 or same > 5)

    def test_a_plan_that_keeps_all_fields(self):
        for game in GAMES + OWN_GAMES:
            for same, rest in ((0, 0), (3, 5), (60, 60)):
                self.check(game, kept_plan(game), same, rest, True)

    def test_rows_that_go_on_unlike(self):
        # Field 1 tells what was shared; with a beginning it is wrong for that long.
        game = ((2, 2), 2, (0, 0), (("set", 0, F1), ("set", 1, "key")))
        for same, rest in itertools.product(range(4), repeat=2):
            self.check(game, ("stays", "stays"), same, rest, Walked(game, ("stays", "stays")).is_safe_shared(same, rest))
        self.check(game, ("stays", "stays"), 1, 0, False)
        self.check(game, ("stays", "stays"), 1, 1, True)
        self.check(game, ("stays", "stays"), 2, 0, True)
        self.check(game, ("stays", "stays"), 0, 2, True)

    def test_the_beginning_is_shared_by_guessed_and_keys(self):
        # Field 0 is set by key 1 alone and for ever, so what was shared must not part both.
        game = ((2,), 2, (0,), (when(("same", "key", 1), ("set", 0, 1)),))
        for same, rest in itertools.product(range(5), repeat=2):
            self.check(game, ("stays",), same, rest, rest == 0)
        toggled = ((2,), 2, (0,), (when(("same", "key", 1), ("set", 0, ("minus", 1, F0))),))
        for same, rest in itertools.product(range(5), repeat=2):
            self.check(toggled, ("stays",), same, rest, same == rest == 0)

    def test_old_worlds_that_are_reached_alone_count(self):
        self.check(STILL, (made(0),), 3, 3, True)
        self.check(STILL, (made(1),), 3, 3, False)
        self.check(LAMP, ("kept", "kept", "stays"), 0, 0, True)
        self.check(LAMP, ("kept", "kept", "stays"), 1, 0, False)

    def test_up_to_60_keys(self):
        answers = set()
        for seed, game in enumerate((LEAP, DROP, BY_KEYS, DROP_AND_TURN, NEVER, gaps(4), ROUNDS[5], ROUNDS[12]) + tuple(drawn_games(25))):
            for plan in some_plans(game, seed, 1) + [("stays",) * len(game[0])]:
                walked = Walked(game, plan)
                for same, rest in ((60, 60), (60, 0), (0, 60), (59, 1), (1, 59), (7, 30)):
                    expected = walked.is_safe_shared_by_sets(same, rest)
                    self.check(game, plan, same, rest, expected)
                    answers.add((same, rest, expected))
        self.assertEqual(len(answers), 12)

    def test_the_same_call_with_another_one_between(self):
        first = [is_safe_shared(DROP, ("stays", "stays"), same, 1) for same in range(8)]
        failures(DROP, ("stays", "stays"), (0, 0), 3)
        is_safe_shared(LEAP, ("stays",), 4, 4)
        self.assertEqual([is_safe_shared(DROP, ("stays", "stays"), same, 1) for same in range(8)], first)


if __name__ == "__main__":
    unittest.main()
