"""Lots of fields, those that have to be kept, and the cheapest ones."""

import itertools
import unittest

from savedback.depths import is_safe_within
from savedback.needs import cheapest, needed, plan_of
from tests.samples import COUNT, EXAMPLE, FALL, FULL, GAMES, SINK, STILL, SWAP, TURN, WHEEL
from tests.samples import CallCase, Numbers, drawn_games
from tests.tries import BY_KEYS, DROP, DROP_AND_TURN, F0, F1, F2, F3, LAMP, NEVER, OWN_GAMES, ROUNDS, SKIP, THREE_TURNS
from tests.tries import Tries, gaps, when

END = 10 ** 30

# Each field is what the one behind it was a step ago, and the last one is the key.
CHAIN = ((2, 2, 2, 2), 2, (0, 0, 0, 0), (("set", 0, F1), ("set", 1, F2), ("set", 2, F3), ("set", 3, "key")))

# Two of the fields never change, and one goes round.
QUIET = ((2, 3, 2), 1, (1, 0, 0), (("set", 1, ("plus", F1, 1)),))

# Field 0 goes on by field 1, which key 1 turns.
SPREAD = (
    (3, 2, 2), 2, (0, 0, 0),
    (("set", 0, ("plus", F0, F1)), when(("same", "key", 1), ("set", 1, ("minus", 1, F1)))),
)

# All three fields are the same; if one is not, it is put right by the two others.
THREE_COPIES = (
    (2, 2, 2), 2, (0, 0, 0),
    (
        ("if", ("less", 1, ("plus", ("plus", F0, F1), F2)), (("set", 0, 1),), (("set", 0, 0),)),
        when(("same", "key", 1), ("set", 0, ("minus", 1, F0))),
        ("set", 1, F0),
        ("set", 2, F0),
    ),
)

# Fields 0 and 1 are the same, and field 2 tells for ever if they were not. So both may be kept,
# and both may stay. Field 3 has to be kept.
TWINS = (
    (2, 2, 2, 3), 2, (0, 0, 0, 0),
    (
        ("if", ("same", F0, F1), (), (("set", 2, 1),)),
        ("set", 0, "key"),
        ("set", 1, "key"),
        ("set", 3, ("plus", F3, "key")),
    ),
)

# Field 0 and fields 1 and 2 both tell the time. If they are one step apart, the earlier one is
# right. So behind one key it will do to keep either.
CLOCKS = (
    (4, 2, 2), 1, (0, 0, 0),
    (
        when(("same", ("plus", ("times", 2, F1), F2), ("minus", F0, 1)), ("set", 0, ("minus", F0, 1))),
        when(("same", ("plus", ("times", 2, F1), F2), ("plus", F0, 3)), ("set", 0, 3)),
        ("set", 0, ("plus", F0, 1)),
        ("set", 1, 0),
        when(("less", 1, F0), ("set", 1, 1)),
        ("set", 2, F0),
    ),
)

OTHERS = (CLOCKS, CHAIN, QUIET, SPREAD, THREE_COPIES, TWINS)

STRETCHES = ((0, 0), (1, 1), (2, 2), (0, 1), (1, 3), (6, 6), (6, 9), (0, None), (1, None), (7, None), (END, END), (END, None), (0, END))


def all_lots(game):
    fields = range(len(game[0]))
    return sorted(lot for count in range(len(game[0]) + 1) for lot in itertools.combinations(fields, count))


def safe_lots(game, low, high):
    return [lot for lot in all_lots(game) if is_safe_within(game, plan_of(game, lot), low, high)]


def least_lots(lots):
    return tuple(lot for lot in lots if not any(set(other) < set(lot) for other in lots))


class Examples(unittest.TestCase):
    def test_lots(self):
        game = ((2, 2), 2, (0, 0), (("set", 1, "key"), ("if", ("same", "key", 1), (("set", 0, ("minus", 1, ("field", 0))),), ())))
        told = [plan_of(game, (1,)), needed(game, 1, None), needed(game, 0, 0), needed(game, 0, None)]
        self.assertEqual(repr(told), "[('stays', 'kept'), ((0,),), ((),), ((0,),)]")

    def test_costs(self):
        game = ((2, 2), 2, (0, 0), (("set", 1, "key"), ("if", ("same", "key", 1), (("set", 0, ("minus", 1, ("field", 0))),), ())))
        told = [cheapest(game, (5, 1), 1, None), cheapest(game, (0, 0), 1, None), cheapest(game, (5, 1), 0, 0)]
        self.assertEqual(repr(told), "[(5, (0,)), (0, (0,)), (0, ())]")


class PlanOf(CallCase):
    def check(self, game, lot, expected):
        with self.subTest(game=game, lot=lot):
            self.check_call(expected, plan_of, game, lot)

    def test_none_and_all(self):
        for game in GAMES:
            fields = len(game[0])
            self.check(game, (), ("stays",) * fields)
            self.check(game, tuple(range(fields)), ("kept",) * fields)

    def test_lots_written_out(self):
        self.check(EXAMPLE, (0,), ("kept", "stays"))
        self.check(FULL, (1,), ("stays", "kept", "stays"))
        self.check(FULL, (0, 2), ("kept", "stays", "kept"))
        self.check(SWAP, (3,), ("stays", "stays", "stays", "kept"))
        self.check(SWAP, (1, 2), ("stays", "kept", "kept", "stays"))
        self.check(SWAP, (0, 1, 3), ("kept", "kept", "stays", "kept"))

    def test_each_lot(self):
        for game in (TURN, EXAMPLE, FULL, SWAP):
            plans = [plan_of(game, lot) for lot in all_lots(game)]
            self.assertEqual(sorted(plans), sorted(itertools.product(("kept", "stays"), repeat=len(game[0]))))
            for lot, plan in zip(all_lots(game), plans):
                self.assertEqual(tuple(field for field, way in enumerate(plan) if way == "kept"), lot)


class Needed(CallCase):
    def check(self, game, low, high, expected):
        with self.subTest(game=game, low=low, high=high):
            self.check_call(expected, needed, game, low, high)

    def test_nothing_has_to_be_kept(self):
        self.check(STILL, 0, None, ((),))
        self.check(FALL, 3, None, ((),))
        self.check(DROP, 6, None, ((),))
        self.check(SINK, 23, None, ((),))
        self.check(ROUNDS[24], 24, 24, ((),))

    def test_all_have_to_be_kept(self):
        self.check(TURN, 0, None, ((0,),))
        self.check(ROUNDS[12], 0, None, ((0, 1),))
        self.check(WHEEL, 1, 1, ((0, 1),))
        self.check(SKIP, 1, None, ((0, 1),))
        self.check(NEVER, 1, 1, ((0,),))

    def test_some_have_to_be_kept(self):
        self.check(BY_KEYS, 1, None, ((0,),))
        self.check(QUIET, 0, None, ((1,),))
        self.check(QUIET, 3, 3, ((),))
        self.check(SPREAD, 0, None, ((0, 1),))
        self.check(COUNT, 0, None, ((1,),))

    def test_other_lots_at_other_depths(self):
        for low, lots in ((0, ((),)), (1, ((1, 2, 3),)), (2, ((2, 3),)), (3, ((3,),)), (4, ((),)), (END, ((),))):
            self.check(CHAIN, low, low, lots)
        self.check(CHAIN, 0, 1, ((1, 2, 3),))
        self.check(CHAIN, 0, None, ((1, 2, 3),))
        self.check(CHAIN, 2, 3, ((2, 3),))
        self.check(CHAIN, 3, None, ((3,),))
        self.check(CHAIN, 4, None, ((),))
        self.check(CHAIN, 4, END, ((),))
        self.check(DROP_AND_TURN, 1, 2, ((0, 1),))
        self.check(DROP_AND_TURN, 2, 2, ((0,),))
        self.check(DROP_AND_TURN, 3, None, ((1,),))
        self.check(DROP_AND_TURN, END, END, ((),))
        self.check(DROP_AND_TURN, END - 1, END, ((1,),))

    def test_several_lots(self):
        self.check(THREE_COPIES, 1, None, ((0, 1), (0, 2), (1, 2)))
        self.check(THREE_COPIES, 5, 5, ((0, 1), (0, 2), (1, 2)))
        self.check(THREE_COPIES, 0, 0, ((),))
        self.check(CLOCKS, 1, 1, ((0,), (1, 2)))

    def test_a_greater_lot_that_will_not_do(self):
        self.check(DROP, 6, 6, ((),))
        self.assertEqual(safe_lots(DROP, 6, 6), [(), (0, 1)])
        self.check(TWINS, 0, None, ((3,),))
        self.assertEqual(safe_lots(TWINS, 0, None), [(0, 1, 2, 3), (0, 1, 3), (2, 3), (3,)])

    def test_depth_0_alone(self):
        for game in GAMES + OWN_GAMES + OTHERS:
            self.check(game, 0, 0, ((),))

    def test_as_going_through_all_lots(self):
        for game in GAMES + OWN_GAMES + OTHERS + tuple(drawn_games(80)):
            for low, high in STRETCHES if game in OTHERS + (DROP, DROP_AND_TURN) else STRETCHES[1::4]:
                self.check(game, low, high, least_lots(safe_lots(game, low, high)))

    def test_as_tries_tell(self):
        for game in OTHERS + (EXAMPLE, FULL, LAMP, gaps(4)) + tuple(drawn_games(40)):
            tries = {lot: Tries(game, plan_of(game, lot)) for lot in all_lots(game)}
            for low, high in ((0, 0), (1, 1), (1, 4), (3, 9)):
                safe = [lot for lot in tries if not any(tries[lot].failing_at(depth) for depth in range(low, high + 1))]
                self.check(game, low, high, least_lots(safe))

    def test_the_same_call_with_another_one_between(self):
        first = needed(THREE_COPIES, 1, None)
        needed(TWINS, 1, None)
        cheapest(THREE_COPIES, (1, 2, 3), 1, None)
        self.assertEqual(needed(THREE_COPIES, 1, None), first)


class Cheapest(CallCase):
    def check(self, game, costs, low, high, expected):
        with self.subTest(game=game, costs=costs, low=low, high=high):
            self.check_call(expected, cheapest, game, costs, low, high)

    def test_the_least_sum(self):
        self.check(THREE_COPIES, (5, 7, 9), 1, None, (12, (0, 1)))
        self.check(THREE_COPIES, (9, 7, 5), 1, None, (12, (1, 2)))
        self.check(THREE_COPIES, (5, 99, 98), 1, None, (103, (0, 2)))
        self.check(THREE_COPIES, (99, 99, 99), 1, None, (198, (0, 1)))
        self.check(CLOCKS, (5, 2, 2), 1, 1, (4, (1, 2)))
        self.check(CLOCKS, (4, 2, 2), 1, 1, (4, (0,)))
        self.check(CLOCKS, (3, 2, 2), 1, 1, (3, (0,)))
        self.check(CHAIN, (99, 99, 99, 99), 0, None, (297, (1, 2, 3)))
        self.check(CHAIN, (1, 2, 3, 4), 2, 2, (7, (2, 3)))
        self.check(SKIP, (99, 99), 1, None, (198, (0, 1)))

    def test_nothing_has_to_be_kept(self):
        self.check(CHAIN, (1, 2, 3, 4), 4, None, (0, ()))
        self.check(CHAIN, (0, 0, 0, 0), 4, None, (0, ()))
        self.check(STILL, (99,), 0, END, (0, ()))

    def test_costs_that_are_the_same(self):
        self.check(THREE_COPIES, (1, 1, 1), 1, None, (2, (0, 1)))
        self.check(THREE_COPIES, (3, 1, 1), 1, None, (2, (1, 2)))
        self.check(THREE_COPIES, (1, 3, 1), 1, None, (2, (0, 2)))
        self.check(TWINS, (4, 4, 4, 4), 1, None, (4, (3,)))

    def test_costs_of_0(self):
        self.check(THREE_COPIES, (0, 0, 0), 1, None, (0, (0, 1)))
        self.check(THREE_COPIES, (8, 0, 0), 1, None, (0, (1, 2)))
        self.check(CHAIN, (5, 0, 0, 0), 1, None, (0, (1, 2, 3)))

    def test_a_lot_that_is_not_needed_is_as_cheap_and_stands_ahead(self):
        self.check(CHAIN, (0, 0, 0, 0), 1, None, (0, (0, 1, 2, 3)))
        self.check(CHAIN, (0, 7, 8, 9), 1, None, (24, (0, 1, 2, 3)))
        self.check(CHAIN, (0, 7, 8, 9), 2, 2, (17, (0, 2, 3)))
        self.check(CHAIN, (0, 0, 8, 9), 2, 2, (17, (0, 1, 2, 3)))
        self.check(CHAIN, (1, 0, 8, 9), 2, 2, (17, (1, 2, 3)))
        self.check(QUIET, (0, 3, 0), 1, None, (3, (0, 1)))
        self.check(QUIET, (1, 3, 0), 1, None, (3, (1,)))
        self.check(THREE_COPIES, (4, 4, 0), 1, None, (4, (0, 2)))
        # (0, 3) stands ahead and is as cheap, but is not safe; (0, 1, 3) is.
        self.check(TWINS, (0, 0, 0, 6), 1, None, (6, (0, 1, 2, 3)))
        self.check(TWINS, (0, 1, 1, 6), 1, None, (6, (3,)))
        self.check(TWINS, (0, 0, 1, 6), 1, None, (6, (0, 1, 3)))

    def test_as_going_through_all_lots(self):
        numbers = Numbers(11)
        for game in OTHERS + (DROP, DROP_AND_TURN, EXAMPLE, SWAP, THREE_TURNS) + tuple(drawn_games(60)):
            for most in (1, 2, 4, 100):
                costs = tuple(numbers.below(most) for _ in game[0])
                low, high = numbers.one_of(STRETCHES)
                sums = [(sum(costs[field] for field in lot), lot) for lot in safe_lots(game, low, high)]
                self.check(game, costs, low, high, min(sums))


if __name__ == "__main__":
    unittest.main()
