"""Games: game_error for games and for all else, each_statement for games."""

import itertools
import unittest

from savedback.games import each_statement, game_error
from tests.samples import EXAMPLE, FULL, GAMES, ODD_VALUES, CallCase, drawn_games, parts, replaced

STOP = ("stop",)
SAME = ("same", "key", 0)


def if_of(yes=(), no=()):
    return ("if", SAME, yes, no)


def game_of(*block):
    """A game of two fields and two keys with these statements."""
    return ((2, 3), 2, (0, 0), block)


def set_to(expression):
    return game_of(STOP, ("set", 1, expression))


def asked(test):
    return game_of(STOP, ("if", test, (STOP,), ()))


def nested(depth, innermost):
    """The statement in this many others, each alone in the block yes."""
    statement = innermost
    for _ in range(depth):
        statement = if_of((statement,))
    return statement


def deep(count, kind="plus"):
    """An expression with this many expressions in one another, integers counted."""
    expression = 1
    for _ in range(count - 1):
        expression = (kind, 1, expression)
    return expression


def not_of(count):
    test = SAME
    for _ in range(count):
        test = ("not", test)
    return test


def statements_of(block, depth=0):
    """The rows (depth, statement) of a block in order, written as the document tells it."""
    rows = []
    for statement in block:
        rows.append((depth, statement))
        if statement[0] == "if":
            for inner in statement[2:]:
                rows.extend(statements_of(inner, depth + 1))
    return rows


def place_paths(block, path=(3,)):
    """The path to each statement of a game's block, in the order of the places."""
    found = []
    for index, statement in enumerate(block):
        found.append(path + (index,))
        if statement[0] == "if":
            found.extend(place_paths(statement[2], path + (index, 2)))
            found.extend(place_paths(statement[3], path + (index, 3)))
    return found


def fault_at(game, path):
    """The answer if the part of a game at this path is wrong in itself."""
    if not path:
        return (None, "game")
    if path[0] < 3:
        return (None, ("sizes", "keys", "first")[path[0]])
    if len(path) == 1:
        return (None, "block")
    # The wrong part belongs to the innermost statement around it.
    places = [place for place, at in enumerate(place_paths(game[3])) if path[:len(at)] == at]
    return (places[-1], "statement")


class GameCase(CallCase):
    def check(self, value, expected):
        self.check_call(expected, game_error, value)

    def check_all(self, values, expected):
        for value in values:
            with self.subTest(value=value):
                self.check(value, expected)


class Games(GameCase):
    def test_example(self):
        game = ((2, 3), 2, (0, 0), (("set", 1, ("plus", ("field", 1), "key")), ("if", ("same", "key", 1), (("set", 0, ("minus", 1, ("field", 0))),), ())))
        told = [game_error(game), [row[:2] for row in each_statement(game)], game_error(((2, 3), 2, (0, 3), ())), game_error(((2,), 1, (0,), (("set", 1, 0),)))]
        self.assertEqual(repr(told), "[None, [(0, 0), (1, 0), (2, 1)], (None, 'first'), (0, 'statement')]")

    def test_the_games_of_these_tests(self):
        self.check_all(GAMES + (game_of(),), None)
        self.check_all(drawn_games(200), None)

    def test_sizes_at_the_bounds(self):
        for sizes in ((2,), (6,), (2, 2, 2, 3), (2, 2, 2, 2), (6, 4), (4, 6), (2, 3, 4), (6, 2, 2), (3, 2, 2, 2)):
            with self.subTest(sizes=sizes):
                self.check((sizes, 1, (0,) * len(sizes), ()), None)
                self.check((sizes, 1, tuple(size - 1 for size in sizes), ()), None)

    def test_keys_at_the_bounds(self):
        self.check_all((((2,), keys, (0,), (STOP,)) for keys in (1, 2, 3)), None)

    def test_each_first_world(self):
        worlds = itertools.product(range(2), range(3))
        self.check_all((((2, 3), 1, world, ()) for world in worlds), None)

    def test_numbers_and_factors_at_the_bounds(self):
        for number in range(-9, 10):
            with self.subTest(number=number):
                self.check(set_to(number), None)
                self.check(set_to(("times", number, number)), None)
                self.check(asked(("less", number, ("times", number, "key"))), None)

    def test_fields_at_the_bounds(self):
        for field in (0, 1, 2, 3):
            with self.subTest(field=field):
                block = (("set", field, ("field", field)), ("if", ("same", ("field", field), 0), (), ()))
                self.check(((2, 2, 2, 2), 1, (0, 0, 0, 0), block), None)

    def test_three_expressions_in_one_another(self):
        for kind in ("plus", "minus", "times"):
            with self.subTest(kind=kind):
                self.check(set_to(deep(3, kind)), None)
                self.check(asked(("less", deep(3, kind), deep(3, kind))), None)
        for inner in (1, "key", ("field", 0)):
            with self.subTest(inner=inner):
                self.check(set_to(("plus", ("minus", inner, inner), ("times", 9, inner))), None)

    def test_two_nots_in_one_another(self):
        self.check_all((asked(not_of(count)) for count in (0, 1, 2)), None)
        # What stands in a "not" is not counted among the expressions.
        self.check(asked(("not", ("not", ("same", deep(3), deep(3, "minus"))))), None)

    def test_sixteen_statements(self):
        self.check(game_of(*[STOP] * 16), None)
        self.check(game_of(if_of((STOP,) * 5, (STOP,) * 5), if_of((), (STOP,) * 4)), None)

    def test_statements_in_three_others(self):
        self.check_all((game_of(nested(depth, STOP)) for depth in (0, 1, 2, 3)), None)
        self.check(game_of(if_of((), (if_of((), (if_of((), (STOP,)),)),))), None)

    def test_empty_blocks(self):
        self.check(game_of(), None)
        self.check(game_of(if_of()), None)
        # At the greatest depth an if statement may stand if nothing is in it.
        self.check(game_of(nested(3, if_of())), None)

    def test_statements_behind_a_stop(self):
        self.check(game_of(STOP, STOP, ("set", 0, 1)), None)


class WrongItems(GameCase):
    def test_no_tuple_of_four(self):
        self.check_all((None, True, 0, 4, "", "game", "four", [], {}, ()), (None, "game"))
        self.check_all((list(EXAMPLE), dict(enumerate(EXAMPLE)), {"game": EXAMPLE}), (None, "game"))
        self.check_all((EXAMPLE[:3], EXAMPLE + ((),), (EXAMPLE,), ((2,), 1, (0,))), (None, "game"))

    def test_sizes(self):
        wrong = (
            None, True, 2, "2", "23", [2, 3], {2: 3}, (), (2, None), (2, "3"), (2, [3]), ((2, 3),), (2, (3,)),
            (1,), (7,), (0,), (-2,), (10 ** 59,), (2, 1), (2, 7), (1, 2), (7, 2), (True,), (2, True), (False, 2),
            (5, 5), (6, 5), (6, 6), (3, 3, 3), (2, 2, 2, 4), (2, 4, 4), (2, 2, 2, 2, 2), (2,) * 8000,
        )
        self.check_all(((sizes, 1, (0, 0), ()) for sizes in wrong), (None, "sizes"))

    def test_keys(self):
        wrong = (None, True, False, 0, 4, -1, -2, 10 ** 59, "1", "", (1,), [1], (), {})
        self.check_all((((2, 3), keys, (0, 0), ()) for keys in wrong), (None, "keys"))

    def test_first(self):
        wrong = (
            None, True, 0, "00", [0, 0], {0: 0, 1: 0}, (), (0,), (0, 0, 0), (2, 0), (0, 3), (-1, 0), (0, -1),
            (10 ** 59, 0), (True, 0), (0, True), (False, 0), (0, False), (None, 0), (0, "0"), ([0], 0), ((0, 0),),
        )
        self.check_all((((2, 3), 1, first, ()) for first in wrong), (None, "first"))
        self.check_all((((2, 3, 2), 1, (0, 0), ()), ((2,), 1, (0, 0), ())), (None, "first"))

    def test_block(self):
        wrong = (None, True, 0, "", "stop", [], [STOP], {}, {0: STOP})
        self.check_all((((2, 3), 1, (0, 0), block) for block in wrong), (None, "block"))

    def test_block_is_at_fault_only_if_it_is_no_tuple(self):
        self.check_all((((2, 3), 1, (0, 0), (item,)) for item in ODD_VALUES), (0, "statement"))

    def test_the_first_wrong_item_is_told(self):
        values = ((2, 3), 2, (0, 0), ())
        names = ("sizes", "keys", "first", "block")
        for wrong in itertools.product((False, True), repeat=4):
            with self.subTest(wrong=wrong):
                value = tuple(None if at_fault else item for at_fault, item in zip(wrong, values))
                self.check(value, (None, names[wrong.index(True)]) if any(wrong) else None)

    def test_wrong_items_go_ahead_of_wrong_statements(self):
        for index, name in enumerate(("sizes", "keys", "first")):
            with self.subTest(name=name):
                for statement in (None, nested(4, None)):
                    self.check(replaced(game_of(statement), (index,), None), (None, name))
                self.check(replaced(game_of(*[STOP] * 17), (index,), None), (None, name))


class WrongStatements(GameCase):
    def test_no_statements(self):
        wrong = ODD_VALUES + (
            0, "key", ["stop"], ["set", 0, 1], ("Stop",), ("stop", ()), ("halt",), ("set", 0), ("set", 0, 1, 1),
            ("set", 2, 1), ("set", -1, 1), ("set", "a", 1), ("set", None, 1), ("set", (0,), 1), ("set", True, 1),
            ("set", False, 1), ("set", 10 ** 59, 1), ("if", SAME), ("if", SAME, ()), ("if", SAME, (), (), ()),
            (None, 0, 1), (0, 0, 1), ([], 0, 1), (("set",), 0, 1), ("put", 0, 1), (("stop",),),
            ("when", SAME, (), ()), ("less", 0, 1), ("key",), ("field", 0), ("stop", SAME, (), ()),
        )
        self.check_all((game_of(STOP, statement) for statement in wrong), (1, "statement"))

    def test_no_expressions(self):
        wrong = (
            None, True, False, 10, -10, 10 ** 59, -(10 ** 59), "", "Key", "keys", "a", "1", "field", (), [], {},
            [1], {1: 1}, ("key",), (1,), ["field", 0], ("field",), ("field", 2), ("field", -1), ("field", True),
            ("field", False), ("field", "a"), ("field", None), ("field", (0,)), ("field", 0, 0), ("Field", 0),
            ("plus",), ("plus", 1), ("plus", 1, 1, 1), ["plus", 1, 1], ("plus", [1], 1), ("plus", 1, None),
            ("minus", True, 1), ("minus", 1, False), ("minus", 10, 1), ("minus", 1, -10), ("minus", "Key", 1),
            ("over", 1, 1), (None, 1, 1), (1, 1, 1), ([], 1, 1), ("times", 1), ("times", 10, 1), ("times", -10, 1),
            ("times", True, 1), ("times", 1, True), ("times", 1, 10), ("times", "key", 1), ("times", None, 1),
            ("times", ("field", 0), 1), ("times", 1, 1, 1), ("less", 1, 1), ("not", SAME), ("plus", ("field", 2), 1),
            ("plus", 1, ("times", 1, ("field", -1))), STOP,
        )
        self.check_all((set_to(expression) for expression in wrong), (1, "statement"))
        for place in (1, 2):
            for expression in wrong:
                for kind in ("less", "same"):
                    with self.subTest(kind=kind, place=place, expression=expression):
                        self.check(asked(replaced((kind, 1, 1), (place,), expression)), (1, "statement"))

    def test_fields_that_only_other_games_have(self):
        block = (("set", 1, ("field", 0)),)
        self.check(((2,), 1, (0,), block), (0, "statement"))
        self.check(((2,), 1, (0,), (("set", 0, ("field", 1)),)), (0, "statement"))
        self.check(((2, 2, 2, 2), 1, (0,) * 4, (("set", 4, 0),)), (0, "statement"))
        self.check(((2, 2, 2, 2), 1, (0,) * 4, (("set", 3, ("field", 4)),)), (0, "statement"))

    def test_four_expressions_in_one_another(self):
        for kind in ("plus", "minus", "times"):
            with self.subTest(kind=kind):
                self.check(set_to(deep(4, kind)), (1, "statement"))
                self.check(asked(("same", 1, deep(4, kind))), (1, "statement"))
        for inner in ("key", ("field", 0)):
            for kind in ("plus", "minus"):
                with self.subTest(inner=inner, kind=kind):
                    self.check(set_to((kind, (kind, (kind, inner, 1), 1), 1)), (1, "statement"))
                    self.check(set_to((kind, 1, (kind, (kind, 1, inner), 1))), (1, "statement"))
                    self.check(asked(("less", (kind, (kind, 1, ("times", 2, inner)), 1), 1)), (1, "statement"))
        self.check(set_to(deep(20)), (1, "statement"))

    def test_no_tests(self):
        wrong = (
            None, True, False, 1, "", "key", "same", (), [], {}, ("same",), ("same", 1), ("same", 1, 1, 1),
            ("less",), ("less", 1), ("less", 1, 1, 1), ["same", 1, 1], ["not", SAME], ("more", 1, 1),
            ("Same", 1, 1), (None, 1, 1), ([], 1, 1), ("not",), ("not", None), ("not", "key"), ("not", ("field", 0)),
            ("not", SAME, SAME), ("not", list(SAME)), ("not", ("not",)), ("same", SAME, SAME), ("plus", 1, 1),
            ("field", 0), ("times", 1, 1), ("same", 1, ("not", SAME)), ("less", (), 1), STOP,
        )
        for test in wrong:
            with self.subTest(test=test):
                self.check(asked(test), (1, "statement"))
                self.check(asked(("not", test)), (1, "statement"))

    def test_three_nots_in_one_another(self):
        self.check_all((asked(not_of(count)) for count in (3, 4, 20)), (1, "statement"))

    def test_blocks_that_are_no_tuples(self):
        for block in (None, True, False, 0, "", "stop", [], [STOP], {}, {0: STOP}):
            with self.subTest(block=block):
                self.check(game_of(STOP, ("if", SAME, block, ())), (1, "statement"))
                self.check(game_of(STOP, ("if", SAME, (), block)), (1, "statement"))
                self.check(game_of(if_of((STOP,), (("if", SAME, block, (None,)),))), (2, "statement"))

    def test_what_is_in_the_blocks_counts_as_the_next_places(self):
        self.check(game_of(STOP, if_of((None,), (STOP,)), STOP), (2, "statement"))
        self.check(game_of(STOP, if_of((STOP,), (None,)), STOP), (3, "statement"))
        self.check(game_of(STOP, if_of((STOP,), (STOP,)), None), (4, "statement"))
        self.check(game_of(if_of((if_of((STOP,), (STOP,)), None), ())), (4, "statement"))
        self.check(game_of(if_of((), (if_of((), (STOP, None)),))), (3, "statement"))

    def test_the_first_wrong_statement_is_told(self):
        self.check(game_of(STOP, None, None), (1, "statement"))
        self.check(game_of(if_of((STOP,), (None,)), None), (2, "statement"))
        self.check(game_of(("if", None, (None,), ()), None), (0, "statement"))
        self.check(game_of(("if", SAME, (None,), None)), (0, "statement"))

    def test_each_statement_of_a_game_made_wrong(self):
        for game in (EXAMPLE, FULL):
            for place, path in enumerate(place_paths(game[3])):
                with self.subTest(path=path):
                    self.check_all((replaced(game, path, odd) for odd in ODD_VALUES), (place, "statement"))


class NestAndPlaces(GameCase):
    def test_statements_in_four_others(self):
        self.check(game_of(nested(4, STOP)), (4, "nest"))
        self.check(game_of(STOP, nested(3, if_of((), (STOP,)))), (5, "nest"))
        self.check(game_of(nested(3, STOP), nested(3, STOP), nested(4, STOP)), (12, "nest"))

    def test_statements_in_many_others(self):
        self.check_all((game_of(nested(depth, STOP)) for depth in (5, 6, 9)), (4, "nest"))

    def test_the_first_one_that_lies_too_deep_is_told(self):
        self.check(game_of(nested(3, if_of((STOP, STOP), (STOP,))), nested(4, STOP)), (4, "nest"))

    def test_nest_goes_ahead_of_statement_at_one_place(self):
        self.check_all((game_of(nested(4, odd)) for odd in ODD_VALUES), (4, "nest"))

    def test_whichever_place_is_first(self):
        self.check(game_of(None, nested(4, STOP)), (0, "statement"))
        self.check(game_of(nested(4, STOP), None), (4, "nest"))
        self.check(game_of(nested(3, if_of((STOP,), (None,)))), (4, "nest"))
        self.check(game_of(nested(2, if_of((None, if_of((STOP,)))))), (3, "statement"))
        self.check(game_of(nested(2, if_of((if_of((STOP,)), None)))), (4, "nest"))
        # The statement that has the one too deep in its blocks stands ahead of it.
        self.check(game_of(nested(3, ("if", None, (STOP,), ()))), (3, "statement"))
        self.check(game_of(nested(3, ("if", SAME, (STOP,), []))), (3, "statement"))

    def test_seventeen_statements(self):
        self.check(game_of(*[STOP] * 17), (None, "places"))
        self.check(game_of(if_of((STOP,) * 8, (STOP,) * 8)), (None, "places"))
        self.check(game_of(if_of((STOP,) * 5, (STOP,) * 5), if_of((), (STOP,) * 5)), (None, "places"))
        self.check(game_of(*[nested(3, STOP)] * 4, if_of()), (None, "places"))

    def test_very_many_statements(self):
        self.check(game_of(*[STOP] * 3900), (None, "places"))
        self.check(game_of(*[STOP] * 3900, None), (3900, "statement"))

    def test_places_is_behind_nest_and_statement(self):
        self.check(game_of(*[STOP] * 16, None), (16, "statement"))
        self.check(game_of(*[STOP] * 40, None, STOP), (40, "statement"))
        self.check(game_of(None, *[STOP] * 40), (0, "statement"))
        self.check(game_of(*[STOP] * 16, nested(4, STOP)), (20, "nest"))
        self.check(game_of(nested(4, STOP), *[STOP] * 40), (4, "nest"))
        self.check(game_of(*[STOP] * 20, None, nested(4, STOP)), (20, "statement"))


class PartsReplaced(GameCase):
    """Each part of a game made wrong in the same way."""

    def test_a_bool_in_the_place_of_each_integer(self):
        for game in (EXAMPLE, FULL):
            for path, part in parts(game):
                if isinstance(part, int):
                    with self.subTest(path=path):
                        for wrong in (True, False):
                            self.check(replaced(game, path, wrong), fault_at(game, path))

    def test_a_list_in_the_place_of_each_tuple(self):
        for game in (EXAMPLE, FULL):
            for path, part in parts(game):
                if isinstance(part, tuple):
                    with self.subTest(path=path):
                        self.check(replaced(game, path, list(part)), fault_at(game, path))

    def test_a_tuple_of_another_length_in_the_place_of_each_tuple(self):
        for game in (EXAMPLE, FULL):
            for path, part in parts(game):
                # What begins with a text is no block, which may have any length.
                if isinstance(part, tuple) and part and isinstance(part[0], str):
                    with self.subTest(path=path):
                        for wrong in (part[:-1], part + (0,), part + part, ()):
                            self.check(replaced(game, path, wrong), fault_at(game, path))

    def test_no_tuple_number_or_text_of_a_game_in_the_place_of_each_part(self):
        for game in (EXAMPLE, FULL):
            for path, part in parts(game):
                with self.subTest(path=path):
                    for wrong in (None, [], {}, "", "a\nb", 10 ** 59, -(10 ** 59), {"key": part}, [part]):
                        self.check(replaced(game, path, wrong), fault_at(game, path))


class EachStatement(unittest.TestCase):
    def check(self, game, rows):
        told = list(each_statement(game))
        self.assertEqual(repr(told), repr(rows))

    def test_no_statements(self):
        self.check(game_of(), [])

    def test_statements_in_a_row(self):
        block = (("set", 0, 1), STOP, ("set", 1, "key"))
        self.check(game_of(*block), [(0, 0, block[0]), (1, 0, STOP), (2, 0, block[2])])

    def test_blocks_in_blocks(self):
        inner = if_of((STOP,), (("set", 0, 2),))
        middle = if_of((), (("set", 0, 1), inner))
        outer = if_of((("set", 0, 0), middle), (STOP,))
        rows = [
            (0, 0, ("set", 1, 0)),
            (1, 0, outer),
            (2, 1, ("set", 0, 0)),
            (3, 1, middle),
            (4, 2, ("set", 0, 1)),
            (5, 2, inner),
            (6, 3, STOP),
            (7, 3, ("set", 0, 2)),
            (8, 1, STOP),
            (9, 0, ("set", 1, 1)),
        ]
        self.check(game_of(("set", 1, 0), outer, ("set", 1, 1)), rows)

    def test_empty_blocks(self):
        self.check(game_of(if_of(), if_of((), (STOP,)), if_of((STOP,))), [
            (0, 0, if_of()), (1, 0, if_of((), (STOP,))), (2, 1, STOP), (3, 0, if_of((STOP,))), (4, 1, STOP),
        ])

    def test_statements_that_are_the_same(self):
        same = if_of((STOP,), (STOP,))
        self.check(game_of(same, same), [
            (0, 0, same), (1, 1, STOP), (2, 1, STOP), (3, 0, same), (4, 1, STOP), (5, 1, STOP),
        ])

    def test_as_the_document_orders_them(self):
        for game in (EXAMPLE, FULL, game_of(*[nested(3, STOP)] * 4)):
            with self.subTest(game=game):
                expected = [(place,) + row for place, row in enumerate(statements_of(game[3]))]
                self.check(game, expected)

    def test_two_walks_at_the_same_time(self):
        expected = list(each_statement(FULL))
        one, other = each_statement(FULL), each_statement(FULL)
        self.assertEqual([next(one), next(one)], expected[:2])
        self.assertEqual(next(other), expected[0])
        self.assertEqual(list(one), expected[2:])
        self.assertEqual(list(other), expected[1:])
        pairs = [(row, inner) for row in each_statement(FULL) for inner in each_statement(FULL)]
        self.assertEqual(pairs, list(itertools.product(expected, expected)))

    def test_a_walk_that_is_given_up(self):
        expected = list(each_statement(EXAMPLE))
        next(each_statement(EXAMPLE))
        self.assertEqual(list(each_statement(EXAMPLE)), expected)

    def test_the_game_is_not_changed(self):
        before = repr(FULL)
        list(each_statement(FULL))
        self.assertEqual(repr(FULL), before)


if __name__ == "__main__":
    unittest.main()
