"""Consoles: each command and each answer, and lines that are no commands."""

import itertools
import unittest

from savedback.benches import Bench, SafeBench
from savedback.consoles import Console
from savedback.texts import game_text
from tests.samples import EXAMPLE, FULL, GAMES, ODD_VALUES, STILL, SWAP, TURN
from tests.samples import made
from tests.tries import BY_KEYS, DROP, DROP_AND_TURN, F0, F1, LEAP, OWN_GAMES, ROUNDS, gaps

UNKNOWN = "unknown command"

END = 10 ** 30


class ConsoleCase(unittest.TestCase):
    def check(self, console, line, answer):
        with self.subTest(line=line):
            told = console.execute(line)
            self.assertIs(type(told), str)
            self.assertEqual(told, answer)

    def check_unknown(self, bench, line):
        """Nothing is done, whatever the line is."""
        before = (bench.plan, bench.edits(), len(bench))
        self.check(Console(bench), line, UNKNOWN)
        self.assertEqual((bench.plan, bench.edits(), len(bench)), before)


class Examples(ConsoleCase):
    def test_example(self):
        console = Console(Bench(((2, 2), 2, (0, 0), (("set", 1, "key"), ("if", ("same", "key", 1), (("set", 0, ("minus", 1, ("field", 0))),), ())))))
        told = [console.execute(line) for line in ('leave a', 'depths', 'make b (a + 1)', 'keep a', 'make b (a + 1)', 'plan', 'depths', 'unsafe 0', 'keep c', 'make a key', 'unsafe -1', 'keep  a')]
        self.assertEqual(told, ['ok 1', 'none; from 1 by 1: 0', 'error BadPlan', 'ok 2', 'ok 3', 'a kept, b made (a + 1)', '0; from 1 by 1: none', '0', 'error NoField', 'error BadPlan', 'error BadDepths', 'unknown command'])


class Edits(ConsoleCase):
    def test_edits(self):
        bench = Bench(SWAP)
        console = Console(bench)
        for line, edit in (
            ("leave a", ("leave", 0)), ("leave b", ("leave", 1)), ("leave c", ("leave", 2)), ("leave d", ("leave", 3)),
            ("keep a", ("keep", 0)), ("keep b", ("keep", 1)), ("keep c", ("keep", 2)), ("keep d", ("keep", 3)),
            ("turn a d", ("turn", 0, 3)), ("turn b c", ("turn", 1, 2)), ("turn c c", ("turn", 2, 2)), ("turn d a", ("turn", 3, 0)),
            ("make a -9", ("make", 0, -9)), ("make b d", ("make", 1, ("field", 3))), ("make c (2 * (d - -1))", ("make", 2, ("times", 2, ("minus", ("field", 3), -1)))),
        ):
            self.check(console, line, f"ok {len(bench) + 1}")
            self.assertEqual(bench.edits()[-1], edit)
        self.assertEqual(bench.plan, (made(-9), made(("field", 3)), made(("times", 2, ("minus", ("field", 3), -1))), "kept"))

    def test_undo_and_redo(self):
        bench = Bench(EXAMPLE)
        console = Console(bench)
        for line, answer in (
            ("undo", "error NothingToUndo"), ("redo", "error NothingToRedo"), ("leave a", "ok 1"), ("leave b", "ok 2"), ("undo", "ok 1"),
            ("undo", "ok 0"), ("undo", "error NothingToUndo"), ("redo", "ok 1"), ("redo", "ok 2"), ("redo", "error NothingToRedo"), ("undo", "ok 1"),
            ("keep a", "ok 2"), ("redo", "error NothingToRedo"),
        ):
            self.check(console, line, answer)
        self.assertEqual(bench.edits(), (("leave", 0), ("keep", 0)))

    def test_fields_that_the_game_does_not_have(self):
        for game in (TURN, EXAMPLE, FULL, SWAP):
            for field, letter in enumerate("abcd"):
                for line in ("leave " + letter, "make " + letter + " 1", "keep " + letter, f"turn {letter} a", f"turn a {letter}"):
                    bench = Bench(game)
                    self.check(Console(bench), line, "ok 1" if field < len(game[0]) else "error NoField")
                    self.assertEqual(len(bench), int(field < len(game[0])))

    def test_each_error(self):
        bench = Bench(BY_KEYS)
        console = Console(bench)
        for line, answer in (
            ("keep c", "error NoField"), ("leave d", "error NoField"), ("make c 1", "error NoField"), ("make d key", "error NoField"),
            ("turn c a", "error NoField"), ("turn a c", "error NoField"), ("turn d d", "error NoField"), ("make a key", "error BadPlan"),
            ("make a a", "error BadPlan"), ("make a c", "error BadPlan"), ("make a 10", "error BadPlan"), ("make a -10", "error BadPlan"),
            ("make a (10 * b)", "error BadPlan"), ("make a (1 + (1 + (1 + b)))", "error BadPlan"), ("make a (b + key)", "error BadPlan"),
            ("undo", "error NothingToUndo"), ("redo", "error NothingToRedo"), ("unsafe -1", "error BadDepths"), (f"unsafe {END + 1}", "error BadDepths"),
        ):
            self.check(console, line, answer)
        self.assertEqual((len(bench), bench.plan), (0, ("kept", "kept")))

    def test_too_many_edits(self):
        bench = Bench(BY_KEYS)
        console = Console(bench)
        for version in range(1, 61):
            self.check(console, "keep a", f"ok {version}")
        for line in ("keep a", "leave b", "make a 1", "make a key", "turn a b", "turn c d", "keep d"):
            self.check(console, line, "error TooManyEdits")
        self.check(console, "undo", "ok 59")

    def test_safe_benches(self):
        bench = SafeBench(BY_KEYS, None, 1)
        console = Console(bench)
        for line, answer in (
            ("leave a", "error Unsafe"), ("leave b", "ok 1"), ("turn a b", "error Unsafe"), ("make b a", "ok 2"), ("make a b", "error BadPlan"),
            ("unsafe 0", "0"), ("unsafe 1", "safe"), ("depths", "0; from 1 by 1: none"), ("plan", "a kept, b made a"), ("undo", "ok 1"), ("redo", "ok 2"),
        ):
            self.check(console, line, answer)

    def test_expressions_as_parse_game_takes_them(self):
        bench = Bench(((2, 2), 1, (0, 0), ()), ("stays", "kept"))
        for text, expression in (
            ("0", 0), ("9", 9), ("-9", -9), ("b", F1), ("(b + 1)", ("plus", F1, 1)), ("(1 - b)", ("minus", 1, F1)), ("(-2 * b)", ("times", -2, F1)),
            ("((b + b) - (3 * b))", ("minus", ("plus", F1, F1), ("times", 3, F1))), ("(0 * -9)", ("times", 0, -9)),
        ):
            version = len(bench) + 1
            self.check(Console(bench), "make a " + text, f"ok {version}")
            self.assertEqual(bench.edits()[-1], ("make", 0, expression))
            self.check(Console(bench), "plan", f"a made {text}, b kept")

    def test_expressions_in_the_wide_sense(self):
        deep = "b"
        for count in range(2, 24):
            deep = f"({deep} + 1)"
            bench = Bench(EXAMPLE, ("stays", "kept"))
            if count <= 3:
                self.check(Console(bench), "make a " + deep, "ok 1")
            elif count <= 20:
                self.check(Console(bench), "make a " + deep, "error BadPlan")
            else:
                self.check_unknown(bench, "make a " + deep)
        bench = Bench(EXAMPLE, ("stays", "kept"))
        for text in ("1" * 20, "-" + "9" * 20, "c", "d", "key", "(" + "1" * 20 + " * b)"):
            self.check(Console(bench), "make a " + text, "error BadPlan")
        for text in ("1" * 21, "-" + "9" * 21, "e", "00", "-0", "+1", "(b * 2)", "(b+1)", "b + 1", "(b + 1) ", " b", "", "kept", "stays", "(", "(" * 3000):
            self.check_unknown(bench, "make a " + text)


class Answers(ConsoleCase):
    def test_text(self):
        for game in GAMES + OWN_GAMES:
            for bench in (Bench(game), SafeBench(game)):
                self.check(Console(bench), "text", game_text(game).replace("\n", " | "))
        self.check(Console(Bench(STILL)), "text", "sizes 2 | keys 1 | first 0")
        self.check(Console(Bench(EXAMPLE)), "text", "sizes 2 3 | keys 2 | first 0 0 | set b (b + key) | if key = 1 |   set a (1 - a)")

    def test_plan(self):
        for game, plan, answer in (
            (TURN, ("kept",), "a kept"), (TURN, ("stays",), "a stays"), (TURN, (made(-3),), "a made -3"),
            (EXAMPLE, ("stays", "kept"), "a stays, b kept"), (EXAMPLE, (made(("times", 2, F1)), "kept"), "a made (2 * b), b kept"),
            (SWAP, ("kept", made(("minus", F0, ("field", 2))), "kept", "stays"), "a kept, b made (a - c), c kept, d stays"),
            (SWAP, ("kept", made(("plus", ("minus", 0, F0), -1)), made(F0), made(9)), "a kept, b made ((0 - a) + -1), c made a, d made 9"),
        ):
            self.check(Console(Bench(game, plan)), "plan", answer)

    def test_depths(self):
        for game, plan, answer in (
            (STILL, ("stays",), "safe"), (STILL, (made(1),), "none; from 0 by 1: 0"), (LEAP, ("stays",), "1, 2; from 3 by 1: none"),
            (TURN, ("stays",), "none; from 0 by 2: 1"), (ROUNDS[4], ("stays",), "none; from 0 by 4: 1, 2, 3"), (BY_KEYS, ("stays", "kept"), "none; from 1 by 1: 0"),
            (DROP, ("stays", "stays"), "1, 2, 3, 4, 5; from 6 by 1: none"), (DROP_AND_TURN, ("stays", "stays"), "1, 2; from 3 by 2: 1"),
            (gaps(5), ("kept", "stays", "kept"), "5, 6, 10, 11, 12, 15, 16, 17, 18; from 20 by 1: 0"), (gaps(4), ("kept", "stays", "kept"), "none; from 3 by 2: 0"),
        ):
            self.check(Console(Bench(game, plan)), "depths", answer)

    def test_unsafe(self):
        for game, plan, depth, answer in (
            (LEAP, ("stays",), 0, "1"), (LEAP, ("stays",), 1, "1"), (LEAP, ("stays",), 2, "2"), (LEAP, ("stays",), 3, "safe"), (LEAP, ("stays",), END, "safe"),
            (TURN, ("stays",), 6, "7"), (TURN, ("stays",), END, str(END + 1)), (TURN, ("stays",), END - 1, str(END - 1)), (STILL, ("kept",), 0, "safe"),
            (STILL, (made(1),), 0, "0"), (LEAP, ("stays",), -1, "error BadDepths"), (LEAP, ("stays",), END + 1, "error BadDepths"),
            (STILL, ("kept",), 10 ** 39, "error BadDepths"), (STILL, ("kept",), 10 ** 40 - 1, "error BadDepths"), (STILL, ("kept",), 1 - 10 ** 40, "error BadDepths"),
        ):
            self.check(Console(Bench(game, plan)), f"unsafe {depth}", answer)

    def test_the_answers_change_nothing(self):
        bench = Bench(EXAMPLE)
        bench.leave(0)
        bench.leave(1)
        bench.undo()
        for line in ("text", "plan", "depths", "unsafe 0", "unsafe -1", "keep d", "make a key", "nothing"):
            Console(bench).execute(line)
        self.assertEqual([bench.edits(), bench.redo()], [(("leave", 0),), 2])


class NoCommands(ConsoleCase):
    def test_values_that_are_no_texts(self):
        for value in ODD_VALUES + (0, 1, 10 ** 59, ("keep", 0), ["keep a"], ("keep a",), {"keep a": "keep a"}, b"keep a"):
            if not isinstance(value, str):
                self.check_unknown(Bench(EXAMPLE), value)

    def test_signs_spaces_and_words_put_otherwise(self):
        bench = Bench(EXAMPLE)
        bench.leave(0)
        bench.leave(1)
        bench.undo()
        for line in (
            "", " ", "\n", "keep", "keep ", "keep  a", " keep a", "keep a ", "keep a\n", "keep\ta", "keepa", "Keep a", "KEEP a", "keep A", "keep e", "keep 0",
            "keep ab", "keep a b", "keep key", "keep a,", "kept a", "leave", "leave ", "leave  a", "leave a ", "leave A", "leave e", "leave 1", "leaves a", "leave a a",
            "make", "make ", "make a", "make a ", "make  a 1", "make a  1", "make a 1 ", "make A 1", "make e 1", "make 0 1", "make a 1 1", "make a\n1", "make b (a +1)",
            "turn", "turn a", "turn a ", "turn  a b", "turn a  b", "turn a b ", "turn a b c", "turn a e", "turn e a", "turn A b", "turn ab", "turn a,b", "turn 0 1",
            "undo ", " undo", "Undo", "undo 1", "undo a", "undo\n", "redo ", " redo", "Redo", "redo 1", "undoredo", "undo redo", "text ", "Text", "text a", "texts",
            "plan ", "Plan", "plan a", "plans", "depths ", "depth", "Depths", "depths 0", "unsafe", "unsafe ", "unsafe  0", "unsafe 0 ", "Unsafe 0", "unsafe a",
            "unsafe key", "unsafe 0 1", "unsafe 0 None", "give a 1", "redo a 1", "undo a b", "text a 1", "nothing a b", "attempt", "state", "edits", "back", "str", "help", "keep a\nkeep a", "unknown command", "ok 1", "x" * 3500,
        ):
            self.check_unknown(bench, line)
        self.assertEqual(bench.redo(), 2)

    def test_integers(self):
        bench = Bench(LEAP, ("stays",))
        for text in ("00", "01", "-0", "-00", "-01", "+1", "--1", "-", "1.0", "1e3", "0x1", "1_0", "1" * 41, "-" + "1" * 41, "0" * 40, "10 ", "1,0", "(1)", "None"):
            self.check_unknown(bench, "unsafe " + text)
        for text, answer in (("0", "1"), ("3", "safe"), ("10", "safe"), ("1" * 40, "error BadDepths"), ("-" + "1" * 40, "error BadDepths"), ("-1", "error BadDepths")):
            self.check(Console(bench), "unsafe " + text, answer)

    def test_each_sign_behind_a_word(self):
        signs = [chr(code) for code in range(32, 127)] + ["\n"]
        bench = Bench(STILL)
        for first, second in itertools.product(signs, repeat=2):
            known = first == " " and second in "abcd"
            self.assertEqual(Console(bench).execute("keep" + first + second) != UNKNOWN, known)
            known = first == " " and second in "0123456789"
            self.assertEqual(Console(bench).execute("unsafe" + first + second) != UNKNOWN, known)


class SeveralConsoles(ConsoleCase):
    def test_two_consoles_of_one_bench(self):
        bench = Bench(EXAMPLE)
        one, other = Console(bench), Console(bench)
        self.check(one, "leave a", "ok 1")
        self.check(other, "leave b", "ok 2")
        self.check(one, "plan", "a stays, b stays")
        self.check(other, "undo", "ok 1")
        self.check(one, "plan", "a stays, b kept")
        bench.keep(0)
        self.check(other, "plan", "a kept, b kept")
        self.check(one, "undo", "ok 1")
        self.assertEqual(bench.plan, ("stays", "kept"))

    def test_consoles_of_two_benches(self):
        one, other = Console(Bench(EXAMPLE)), Console(Bench(EXAMPLE))
        self.check(one, "leave a", "ok 1")
        self.check(other, "plan", "a kept, b kept")
        self.check(other, "undo", "error NothingToUndo")

    def test_a_console_within_a_watch(self):
        for bench in (Bench(BY_KEYS), SafeBench(BY_KEYS, None, 0, 0)):
            console, answers = Console(bench), []

            def watch(held):
                for line in (
                    "keep a", "keep d", "leave a", "make a 1", "make a key", "turn a b", "undo", "redo", "plan", "text", "depths", "unsafe 0", "unsafe -1", "keep",
                ):
                    answers.append((line, console.execute(line)))

            bench.attempt([("leave", 0)], watch=watch)
            self.assertEqual(answers, [(line, "error Busy") for line in ("keep a", "keep d", "leave a", "make a 1", "make a key", "turn a b", "undo", "redo")] + [
                ("plan", "a stays, b kept"), ("text", game_text(BY_KEYS).replace("\n", " | ")), ("depths", "none; from 1 by 1: 0"), ("unsafe 0", "1"),
                ("unsafe -1", "error BadDepths"), ("keep", UNKNOWN),
            ])
            self.check(console, "keep a", "ok 2")


if __name__ == "__main__":
    unittest.main()
