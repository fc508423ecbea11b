"""Texts of games: how games are written, and what is read, or is at fault, in a text."""

import itertools
import re
import unittest

from savedback.errors import BadGame, BadText
from savedback.games import game_error
from savedback.texts import game_text, parse_game
from tests.samples import COUNT, EXAMPLE, FALL, FULL, GAMES, ODD_VALUES, SINK, STILL, SWAP, TURN, WHEEL
from tests.samples import CallCase, Numbers, drawn_expression, drawn_games, drawn_test
from tests.tries import OWN_GAMES

HEAD = "sizes 2 2\nkeys 2\nfirst 0 0"

LONG = "1" * 20

TOO_LONG = "1" * 21


def with_block(*lines):
    return "\n".join((HEAD,) + lines)


def sums(count, inner="a"):
    """An expression with so many in one another."""
    return inner if count == 1 else "(" + sums(count - 1, inner) + " + 1)"


def products(count, inner="a"):
    return inner if count == 1 else "(2 * " + products(count - 1, inner) + ")"


class TextCase(CallCase):
    def check_text(self, game, text):
        """A game that is right is written and read like this."""
        with self.subTest(game=game, text=text):
            self.assertIsNone(game_error(game))
            self.check_call(text, game_text, game)
            self.check_call(game, parse_game, text)

    def check_bad(self, value, line):
        with self.subTest(value=value):
            for _ in range(2):
                with self.assertRaises(BadText) as caught:
                    parse_game(value)
                self.assertEqual(repr(caught.exception.line), repr(line))

    def check_line(self, line):
        """A line that no block has, wherever it stands at depth 0."""
        self.check_bad(with_block(line), 3)
        self.check_bad(with_block(line, "nothing", ""), 3)
        self.check_bad(with_block("set a 1", line), 4)
        self.check_bad(with_block("if a = 0", "  stop", line), 5)

    def check_statement(self, line, statement):
        """A line that is right in the wide sense, as the game or its error tells."""
        game = ((2, 2), 2, (0, 0), (statement,))
        with self.subTest(line=line):
            text = with_block(line) if statement[0] != "if" else with_block(line, "  pass")
            error = game_error(game)
            if error is None:
                self.check_text(game, text)
            else:
                self.check_no_game(text, error)

    def check_no_game(self, text, error):
        for _ in range(2):
            with self.assertRaises(BadGame) as caught:
                parse_game(text)
            self.assertEqual(repr(caught.exception.error), repr(error))


class Examples(TextCase):
    def test_both_ways(self):
        game = ((2, 3), 2, (0, 0), (("if", ("not", ("less", ("field", 0), "key")), (), (("set", 1, ("plus", ("field", 1), -1)),)), ("stop",)))
        told = [game_text(game), parse_game(game_text(game)) == game]
        self.assertEqual(told, ['sizes 2 3\nkeys 2\nfirst 0 0\nif not a < key\n  pass\nelse\n  set b (b + -1)\nstop', True])

    def test_a_line_must_follow(self):
        self.check_bad('sizes 2\nkeys 1', 2)

    def test_the_else_stands_too_deep(self):
        self.check_bad('sizes 2\nkeys 1\nfirst 0\nif a = 0\n  stop\n  else\n  stop', 5)

    def test_no_game(self):
        self.check_no_game('sizes 2\nkeys 1\nfirst 0\nstop\nset b 1', (1, 'statement'))


class Written(TextCase):
    def test_empty_blocks(self):
        self.check_text(STILL, "sizes 2\nkeys 1\nfirst 0")
        self.check_text(((2, 2, 2, 3), 3, (1, 0, 1, 2), ()), "sizes 2 2 2 3\nkeys 3\nfirst 1 0 1 2")

    def test_expressions(self):
        for expression, text in (
            (0, "0"), (9, "9"), (-9, "-9"), ("key", "key"), (("field", 0), "a"), (("field", 1), "b"),
            (("plus", 1, 2), "(1 + 2)"), (("minus", -1, -2), "(-1 - -2)"), (("times", 3, "key"), "(3 * key)"),
            (("times", -3, ("field", 1)), "(-3 * b)"), (("times", 0, 0), "(0 * 0)"), (("minus", "key", ("field", 0)), "(key - a)"),
            (("plus", ("minus", 1, "key"), ("times", 2, ("field", 0))), "((1 - key) + (2 * a))"),
            (("times", -9, ("plus", ("field", 0), ("field", 1))), "(-9 * (a + b))"),
            (("minus", 4, ("minus", 5, 6)), "(4 - (5 - 6))"), (("minus", ("minus", 4, 5), 6), "((4 - 5) - 6)"),
            (("times", 2, ("times", 3, 4)), "(2 * (3 * 4))"),
        ):
            self.check_statement("set a " + text, ("set", 0, expression))
            self.check_statement(f"if {text} < 1", ("if", ("less", expression, 1), (), ()))
            self.check_statement(f"if 1 = {text}", ("if", ("same", 1, expression), (), ()))

    def test_letters(self):
        game = ((2, 2, 2, 2), 1, (0, 0, 0, 0), tuple(("set", field, ("field", 3 - field)) for field in range(4)))
        self.check_text(game, "sizes 2 2 2 2\nkeys 1\nfirst 0 0 0 0\nset a d\nset b c\nset c b\nset d a")

    def test_tests(self):
        less, same = ("less", "key", 1), ("same", ("field", 0), ("plus", 1, "key"))
        for test, text in (
            (less, "key < 1"), (same, "a = (1 + key)"), (("not", less), "not key < 1"), (("not", ("not", same)), "not not a = (1 + key)"),
        ):
            self.check_statement("if " + text, ("if", test, (), ()))

    def test_if_statements(self):
        test, stop = ("same", "key", 0), ("stop",)
        for statement, lines in (
            (("if", test, (), ()), ("if key = 0", "  pass")),
            (("if", test, (stop,), ()), ("if key = 0", "  stop")),
            (("if", test, (), (stop,)), ("if key = 0", "  pass", "else", "  stop")),
            (("if", test, (stop, stop), (stop, stop)), ("if key = 0", "  stop", "  stop", "else", "  stop", "  stop")),
            (("if", test, (("if", test, (), ()),), ()), ("if key = 0", "  if key = 0", "    pass")),
            (("if", test, (("if", test, (), (stop,)),), ()), ("if key = 0", "  if key = 0", "    pass", "  else", "    stop")),
            (("if", test, (("if", test, (), ()),), (stop,)), ("if key = 0", "  if key = 0", "    pass", "else", "  stop")),
            (("if", test, (), (("if", test, (), (stop,)),)), ("if key = 0", "  pass", "else", "  if key = 0", "    pass", "  else", "    stop")),
            (
                ("if", test, (("if", test, (("if", test, (stop,), (stop,)),), ()), stop), (("if", test, (), ()),)),
                ("if key = 0", "  if key = 0", "    if key = 0", "      stop", "    else", "      stop", "  stop", "else", "  if key = 0", "    pass"),
            ),
        ):
            self.check_text(((2, 2), 2, (0, 0), (statement,)), with_block(*lines))
            self.check_text(((2, 2), 2, (0, 0), (stop, statement, stop)), with_block("stop", *lines, "stop"))
            self.check_text(((2, 2), 2, (0, 0), (statement, statement)), with_block(*lines, *lines))

    def test_games_of_each_kind(self):
        self.check_text(TURN, "sizes 2\nkeys 1\nfirst 0\nset a (1 - a)")
        self.check_text(COUNT, "sizes 2 4\nkeys 1\nfirst 0 0\nset b (b + 1)\nset a b")
        self.check_text(FALL, "sizes 4\nkeys 2\nfirst 0\nif key = 1\n  set a 0\nelse\n  if 0 < a\n    set a (a - 1)")
        self.check_text(EXAMPLE, "sizes 2 3\nkeys 2\nfirst 0 0\nset b (b + key)\nif key = 1\n  set a (1 - a)")
        self.check_text(FULL, "\n".join((
            "sizes 2 2 3", "keys 3", "first 1 0 2", "set c ((-3 * c) + key)", "if not not b < (key - 1)", "  stop",
            "  if 1 = key", "    pass", "  else", "    set a 1", "else", "  set b a", "stop",
        )))

    def test_what_is_written_is_read(self):
        for game in GAMES + OWN_GAMES + tuple(drawn_games(300)):
            self.check_text(game, game_text(game))

    def test_drawn_phrases(self):
        numbers = Numbers(77)
        for _ in range(200):
            sizes = (2, 2, 2, 2)
            block = (
                ("set", numbers.below(4), drawn_expression(numbers, sizes)),
                ("if", drawn_test(numbers, sizes), (), ()),
            )
            game = (sizes, 3, (0, 1, 0, 1), block)
            self.assertEqual(repr(parse_game(game_text(game))), repr(game))


class NoTexts(TextCase):
    def test_values_of_every_other_kind(self):
        values = [value for value in ODD_VALUES if not isinstance(value, str)] + [0, 1, -1, b"sizes 2", [HEAD], (HEAD,), {HEAD: HEAD}]
        for value in values + list(GAMES):
            self.check_bad(value, None)

    def test_the_empty_text(self):
        self.check_bad("", 0)
        self.check_bad("\n", 0)
        self.check_bad(" ", 0)


class Heads(TextCase):
    def test_the_text_ends_too_early(self):
        for text, line in (
            ("sizes 2", 1), ("sizes 2\nkeys 1", 2), ("sizes 7 -3", 1), ("sizes 2 2\nkeys 0", 2), ("sizes 2\n", 1),
            ("sizes 2\nkeys 1\n", 2), ("sizes 2\nkeys 1\nfirst 0\n", 3), ("sizes 2\n\nkeys 1\nfirst 0", 1),
        ):
            self.check_bad(text, line)

    def test_wrong_lines(self):
        right = HEAD.split("\n")
        wrong = {
            0: ("size 2", "Sizes 2", "sizes", "sizes ", "sizes2", "sizes  2", "sizes 2 ", " sizes 2", "sizes 2  2", "sizes\t2", "sizes a", "keys 2", "first 0"),
            1: ("key 2", "Keys 2", "keys", "keys ", "keys  2", "keys 2 ", " keys 2", "keys 2 2", "keys key", "sizes 2 2", "first 0 0"),
            2: ("First 0 0", "first", "first ", "first  0 0", "first 0  0", "first 0 0 ", " first 0 0", "first a b", "keys 2", "stop"),
        }
        for index, lines in wrong.items():
            for line in lines:
                self.check_bad("\n".join(right[:index] + [line] + right[index + 1:]), index)
                self.check_bad("\n".join(right[:index] + [line]), index)
                self.check_bad("\n".join(right[:index] + [line, "nothing"]), index)

    def test_wrong_integers(self):
        for number in ("00", "01", "-0", "-01", "+1", "1.0", "--1", "-", "1-", "1_0", "0x1", TOO_LONG, "-" + TOO_LONG, "0" * 20, "", "2,"):
            self.check_bad(f"sizes {number}\nkeys 1\nfirst 0", 0)
            self.check_bad(f"sizes 2 {number}\nkeys 1\nfirst 0", 0)
            self.check_bad(f"sizes 2\nkeys {number}\nfirst 0", 1)
            self.check_bad(f"sizes 2\nkeys 1\nfirst {number}", 2)
            self.check_bad(f"sizes 2\nkeys 1\nfirst {number} 0", 2)

    def test_any_numbers_in_the_wide_sense(self):
        for text, error in (
            ("sizes 1\nkeys 1\nfirst 0", "sizes"), ("sizes 7\nkeys 1\nfirst 0", "sizes"), ("sizes -2\nkeys 1\nfirst 0", "sizes"),
            ("sizes 5 5\nkeys 1\nfirst 0 0", "sizes"), (f"sizes {LONG}\nkeys 1\nfirst 0", "sizes"), (f"sizes -{LONG}\nkeys 1\nfirst 0", "sizes"),
            ("sizes 2 2 2 2 2\nkeys 1\nfirst 0 0 0 0 0", "sizes"), ("sizes" + " 2" * 300 + "\nkeys 1\nfirst 0", "sizes"),
            ("sizes 2\nkeys 0\nfirst 0", "keys"), ("sizes 2\nkeys 4\nfirst 0", "keys"), ("sizes 2\nkeys -1\nfirst 0", "keys"),
            (f"sizes 2\nkeys {LONG}\nfirst 0", "keys"), (f"sizes 2\nkeys -{LONG}\nfirst 0", "keys"),
            ("sizes 2\nkeys 1\nfirst 2", "first"), ("sizes 2\nkeys 1\nfirst -1", "first"), ("sizes 2\nkeys 1\nfirst 0 0", "first"),
            ("sizes 2 2\nkeys 1\nfirst 0", "first"), (f"sizes 2\nkeys 1\nfirst {LONG}", "first"),
            ("sizes 7\nkeys 9\nfirst 9 9\nset d 10", "sizes"), ("sizes 2\nkeys 9\nfirst 9 9\nset d 10", "keys"),
            ("sizes 2\nkeys 1\nfirst 9 9\nset d 10", "first"),
        ):
            with self.subTest(text=text):
                self.check_no_game(text, (None, error))
                # What is no text at all is told ahead of that.
                self.check_bad(text + "\nnothing", text.count("\n") + 1)


class Lines(TextCase):
    def test_wrong_lines(self):
        for line in (
            "", " ", "  ", "nothing", "Stop", "stop ", "stop 1", "stopp", " stop", "\tstop", "\t\tstop", "  \tstop", "   stop", "stop\t", "stop;",
            "set", "set ", "set a", "set a ", "set  a 1", "set a  1", "set a 1 ", "set 1 a", "set e 1", "set A 1", "set key 1", "set ab 1",
            "Set a 1", "sets a 1", "set a = 1", "set a 1 1", "set a, 1", "set a\t1", "set  1", "a 1", "set a set",
            "if", "if ", "if  a = 0", "if a = 0 ", "If a = 0", "if a", "if a =", "if a = ", "if = 0", "if a == 0", "if a <= 0", "if a > 0",
            "if a=0", "if a =0", "if a= 0", "if a  = 0", "if a =  0", "if (a = 0)", "if nota = 0", "if not", "if not ", "if not  a = 0",
            "if Not a = 0", "if a not = 0", "if not (a = 0)", "if a = 0 = 0", "if a < b < 1", "if a = 0:", "if a = not 0", "ifa = 0",
            "pass", "pass ", "  pass", "else ", "Else", "else:", "sizes 2", "keys 1", "first 0", "# stop",
        ):
            self.check_line(line)

    def test_wrong_expressions(self):
        for text in (
            "e", "A", "Key", "keys", "k", "ab", "a b", "00", "01", "-0", "-01", "+1", "--1", "1.0", "-a", "-key", TOO_LONG, "-" + TOO_LONG,
            "()", "(a)", "(1)", "(a + )", "( + a)", "(a + b", "a + b)", "a + b", "(a+b)", "(a +b)", "(a+ b)", "(a  + b)", "(a +  b)",
            "( a + b)", "(a + b )", "(a + b))", "((a + b)", "((a + b))", "(a + b ", "(a + b(", "((a + b - 1)", "(a + (b - 1)", "(a * 2)", "(a * b)", "(key * 2)", "((1 + 1) * a)", "(2*a)",
            "(a / 2)", "(a % 2)", "(a + b + 1)", "(a + b) + 1", "(2 * 3 * a)", "(2a)", "(a, b)", "[a + b]", "(a + e)", "(a + 01)", "(-0 * a)",
            "(00 * a)", "(+2 * a)", f"({TOO_LONG} * a)", "(2 * a) ", "(a\t+ b)", "(a & b)", "(a ++ b)", "(a + + b)", "(", ")", "(((", ")))",
            "a(", "a)", "a(b + c)", "((((((((((((((((((((((((((((((",
        ):
            self.check_line("set a " + text)
            self.check_line(f"if {text} = 0")
            self.check_line(f"if 0 < {text}")
            self.check_line(f"if not {text} < 0")

    def test_long_integers(self):
        for number in (LONG, "-" + LONG, "9" * 20, "10", "-10"):
            for text, expression in ((number, int(number)), (f"({number} * a)", ("times", int(number), ("field", 0))), (f"(a - {number})", ("minus", ("field", 0), int(number)))):
                self.check_statement("set a " + text, ("set", 0, expression))
                self.check_statement(f"if {text} = 1", ("if", ("same", expression, 1), (), ()))

    def test_letters_beyond_the_fields(self):
        for letter, field in (("a", 0), ("b", 1), ("c", 2), ("d", 3)):
            self.check_statement(f"set {letter} 1", ("set", field, 1))
            self.check_statement(f"set a {letter}", ("set", 0, ("field", field)))
            self.check_statement(f"if {letter} < 1", ("if", ("less", ("field", field), 1), (), ()))

    def test_expressions_that_are_deep(self):
        for text in (sums, products):
            for inner in ("a", "key", "1", "-9"):
                for count in (1, 2, 3, 4, 19, 20):
                    error = None if count <= 3 else (0, "statement")
                    for line in ("set a " + text(count, inner), f"if {text(count, inner)} < 1", f"if 1 = {text(count, inner)}"):
                        block = with_block(line) if line.startswith("set") else with_block(line, "  pass")
                        if error is None:
                            self.assertEqual(game_text(parse_game(block)), block)
                        else:
                            self.check_no_game(block, error)
                for count in (21, 22, 40, 300):
                    self.check_line("set a " + text(count, inner))
                    self.check_line(f"if {text(count, inner)} < 1")
                    self.check_line(f"if 1 = {text(count, inner)}")
        # Also on the right, and where the factor lies that deep.
        right = "1"
        for count in range(2, 23):
            right = f"(a - {right})"
            if count > 20:
                self.check_line("set a " + right)
            elif count > 3:
                self.check_no_game(with_block("set a " + right), (0, "statement"))

    def test_tests_with_many_nots(self):
        for count in range(24):
            line = "if " + "not " * count + "a < 1"
            if count > 20:
                self.check_line(line)
            elif count > 2:
                self.check_no_game(with_block(line, "  pass"), (0, "statement"))
            else:
                self.assertEqual(game_text(parse_game(with_block(line, "  pass"))), with_block(line, "  pass"))
        self.check_line("if " + "not " * 800 + "a < 1")

    def test_letters_and_spaces_put_otherwise(self):
        """Each character of a right text is left out, doubled, and put otherwise."""
        text = game_text(FULL)
        lines = text.split("\n")
        for index, line in enumerate(lines):
            for at, sign in enumerate(line):
                for other in (sign.upper(), sign + " ", " " + sign, "\t", "_"):
                    changed = line[:at] + other + line[at + 1:]
                    if changed != line:
                        self.check_bad("\n".join(lines[:index] + [changed] + lines[index + 1:]), index)

    def test_line_feeds(self):
        for game in (STILL, EXAMPLE, FULL, WHEEL):
            text = game_text(game)
            count = text.count("\n") + 1
            self.check_bad(text + "\n", count)
            self.check_bad(text + "\n\n", count)
            self.check_bad("\n" + text, 0)
            self.check_bad(text.replace("\n", "\n\n"), 1)
            self.check_bad(text.replace("\n", "\r\n"), 0)
            self.check_bad(text.replace("\n", " | "), 0)


class Blocks(TextCase):
    def test_a_line_must_follow(self):
        for lines in (
            ("if a = 0",), ("stop", "if a = 0"), ("if a = 0", "  stop", "else"), ("if a = 0", "  pass", "else"), ("if a = 0", "  if a = 0"),
            ("if a = 0", "  pass", "else", "  if b = 0"), ("if a = 0", "  if a = 0", "    stop", "  else"),
        ):
            self.check_bad(with_block(*lines), 3 + len(lines))

    def test_wrong_lines_in_blocks(self):
        for right, wrong in (
            ((), ("  stop",)), ((), ("pass",)), ((), ("  pass",)), ((), ("else",)), ((), (" stop",)),
            (("stop",), ("  stop", "pass", "  pass", "else")),
            (("if a = 0",), ("stop", "pass", "else", "    stop", "    pass", "  else", "   stop", " stop", "", "  ", "  nothing")),
            (("if a = 0", "  stop"), ("  pass", "    stop", "    pass", "  else", "    else", "pass", " else")),
            (("if a = 0", "  pass"), ("  stop", "  pass", "    stop", "  if a = 0", "  set a 1", "  else", "pass")),
            (("if a = 0", "  pass", "stop"), ("else", "  stop", "pass")),
            (("if a = 0", "  stop", "else"), ("stop", "  pass", "pass", "else", "  else", "    stop", "if a = 0")),
            (("if a = 0", "  stop", "else", "  stop"), ("else", "  else", "  pass", "    stop")),
            (("if a = 0", "  stop", "else", "  stop", "stop"), ("else", "  stop")),
            (("if a = 0", "  if a = 0"), ("  stop", "  pass", "else", "  else", "      stop", "stop")),
            (("if a = 0", "  if a = 0", "    pass"), ("    stop", "    else", "  pass", "      stop")),
            (("if a = 0", "  if a = 0", "    stop", "else", "  stop"), ("  else", "    stop", "else")),
            (("if a = 0", "  if a = 0", "    stop", "  else", "    stop"), ("  else", "    else", "      stop")),
        ):
            for line in wrong:
                self.check_bad(with_block(*right, line), 3 + len(right))
                self.check_bad(with_block(*right, line, "stop"), 3 + len(right))

    def test_the_first_wrong_line_is_told(self):
        self.check_bad(with_block("if a = 0", "stop", "nothing"), 4)
        self.check_bad(with_block("nothing", "if a = 0"), 3)
        self.check_bad("sizes 2\nkey 1\nfirst x\nnothing", 1)
        # The text does not end where a line must follow, as the wrong line stands there.
        self.check_bad(with_block("if a = 0", ""), 4)

    def test_each_row_of_lines(self):
        """All rows of a few lines, behind all that begin a block, against all blocks of some lines more."""
        begun = {()}
        for length in range(1, 8):
            for block in blocks_of(length, 0):
                begun |= {block[:count] for count in range(length + 1)}
        complete = {block for length in range(8) for block in blocks_of(length, 0)}
        kinds = [("  " * depth + word) for depth in range(4) for word in ("stop", "if a = 0", "pass", "else")]
        tried = 0
        for rows in sorted(row for row in begun if len(row) <= 5):
            for line in kinds:
                row, tried = rows + (line,), tried + 1
                with self.subTest(row=row):
                    if row not in begun:
                        self.check_bad(with_block(*row), 3 + len(rows))
                    elif row not in complete:
                        self.check_bad(with_block(*row), 3 + len(row))
                    elif any(each.startswith(" " * 8) and "pass" not in each for each in row):
                        self.assertRaises(BadGame, parse_game, with_block(*row))
                    else:
                        self.assertEqual(game_text(parse_game(with_block(*row))), with_block(*row))
        self.assertGreater(tried, 3000)

    def test_blocks_that_are_nested_too_deeply(self):
        for depth in range(1, 51):
            lines = ["  " * each + "if a = 0" for each in range(depth)] + ["  " * depth + "stop"]
            text = with_block(*lines)
            if depth <= 3:
                self.assertEqual(game_text(parse_game(text)), text)
            else:
                self.check_no_game(text, (4, "nest"))
            self.check_bad(text + "\n" + "  " * (depth + 1) + "stop", 4 + depth)
            self.check_bad(text + "\n" + "  " * depth + "else", 4 + depth)
            self.check_bad(text + "\nelse", 5 + depth)
            self.check_bad(text + "\nelse\n  pass", 5 + depth)

    def test_too_many_statements(self):
        for count in (15, 16, 17, 18, 400):
            text = with_block(*["set a 1"] * count)
            if count <= 16:
                self.assertEqual(game_text(parse_game(text)), text)
            else:
                self.check_no_game(text, (None, "places"))

    def test_the_first_statement_at_fault(self):
        self.check_no_game(with_block("if c = 0", "  set d 1"), (0, "statement"))
        self.check_no_game(with_block("if a = 0", "  set d 1", "else", "  set c 1"), (1, "statement"))
        self.check_no_game(with_block("if a = 0", "  pass", "else", "  set c 1"), (1, "statement"))
        self.check_no_game(with_block("stop", "set a 10"), (1, "statement"))
        self.check_no_game(with_block(*["stop"] * 20, "set a 10"), (20, "statement"))


def blocks_of(length, depth):
    """All blocks with so many lines, as tuples of lines."""
    if length == 0:
        return [()]
    found = []
    for size in range(1, length + 1):
        for head, rest in itertools.product(statements_of(size, depth), blocks_of(length - size, depth)):
            found.append(head + rest)
    return found


def statements_of(length, depth):
    ahead = "  " * depth
    if length == 1:
        return [(ahead + "stop",)]
    found = []
    for size in range(1, length):
        inner = blocks_of(size, depth + 1) + ([(ahead + "  pass",)] if size == 1 else [])
        rest = length - 1 - size
        if rest == 0:
            found += [(ahead + "if a = 0",) + yes for yes in inner]
        elif rest > 1:
            found += [(ahead + "if a = 0",) + yes + (ahead + "else",) + no for yes in inner for no in blocks_of(rest - 1, depth + 1)]
    return found


NUMBER = re.compile(r"(?<![\w-])(?:0|-?[1-9][0-9]{0,19})(?![\w-])")


def depth_by_rewriting(text):
    """How many expressions of a text lie in one another, or None if it is none, by putting in marks."""
    text = NUMBER.sub("#", text)
    text = re.sub(r"(?<![\w-])(?:key|[abcd])(?![\w-])", "<1>", text)
    while True:
        changed = re.sub(r"\((#|<\d+>) [-+] (#|<\d+>)\)", lambda found: f"<{1 + max(map(depth_of, found.groups()))}>", text)
        changed = re.sub(r"\(# \* (#|<\d+>)\)", lambda found: f"<{1 + depth_of(found.group(1))}>", changed)
        if changed == text:
            return depth_of(text) if re.fullmatch(r"#|<\d+>", text) else None
        text = changed


def depth_of(mark):
    return 1 if mark == "#" else int(mark[1:-1])


class Phrases(unittest.TestCase):
    def test_as_found_by_rewriting(self):
        """Texts that are put together of right and of wrong parts."""
        numbers = Numbers(123)
        parts = ("a", "d", "key", "0", "-7", "12", "-0", "07", "e", "(a + 1)", "(2 * b)", "(a * 2)", "(1 - key)", "(", ")", " ")
        signs = (" + ", " - ", " * ", "+", "  +  ", " < ")
        right = wrong = 0
        for _ in range(6000):
            pieces = [numbers.one_of(parts[:-3] if numbers.below(8) else parts) for _ in range(1 + numbers.below(3))]
            text = pieces[0]
            for piece in pieces[1:]:
                sign = numbers.one_of(signs[:3] if numbers.below(6) else signs)
                text = f"({text}{sign}{piece})" if numbers.below(3) else f"({piece}{sign}{text})"
            depth = depth_by_rewriting(text)
            try:
                parse_game(with_block("set a " + text))
                told = True
            except BadGame:
                told = True
            except BadText as error:
                self.assertEqual(error.line, 3)
                told = False
            self.assertEqual(told, depth is not None and depth <= 20, text)
            right, wrong = right + told, wrong + (not told)
        self.assertGreater(right, 500)
        self.assertGreater(wrong, 500)


class Same(unittest.TestCase):
    def test_the_same_call_with_another_one_between(self):
        first = parse_game(game_text(SINK))
        parse_game(game_text(SWAP))
        self.assertRaises(BadText, parse_game, game_text(SINK) + "\n")
        self.assertEqual(parse_game(game_text(SINK)), first)
        self.assertEqual(first, SINK)


if __name__ == "__main__":
    unittest.main()
