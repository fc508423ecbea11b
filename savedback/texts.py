"""Texts of games, and the games that texts tell."""

from savedback.errors import BadGame, BadText
from savedback.games import game_error
from savedback.phrases import MOST_DIGITS, condition_text, condition_told, expression_text, expression_told
from savedback.phrases import field_told, letter_of, number_told

_HEADS = ("sizes", "keys", "first")

_INDENT = "  "


class Block:
    """The lines of a game's block, as they are read one after another."""

    def __init__(self):
        # The statements of all blocks that are open, one in the other.
        self.blocks = [[]]
        # For each of them but the outer one, the test of its if statement, and its block yes if
        # that is complete, otherwise None.
        self.heads = []
        # "if" or "else" if the line read last was one, so that a line must follow; "pass" if it
        # was that, so that no line may follow in its block.
        self.last = None

    def reads(self, line):
        """Read a line, and return whether that is one that may follow."""
        bare = line.lstrip(" ")
        depth, rest = divmod(len(line) - len(bare), len(_INDENT))
        if rest > 0:
            return False
        if bare == "pass":
            return self._reads_pass(depth)
        if bare == "else":
            return self._reads_else(depth)
        return self._reads_statement(depth, bare)

    def is_complete(self):
        """Return whether no line must follow."""
        return self.last not in ("if", "else")

    def statements(self):
        """Return the block; no further line is read."""
        self._close(0)
        return tuple(self.blocks[0])

    def _reads_pass(self, depth):
        if self.last != "if" or depth != len(self.heads):
            return False
        self.last = "pass"
        return True

    def _reads_else(self, depth):
        if not self.is_complete() or depth >= len(self.heads) or self.heads[depth][1] is not None:
            return False
        self._close(depth + 1)
        self.heads[depth] = (self.heads[depth][0], tuple(self.blocks.pop()))
        self.blocks.append([])
        self.last = "else"
        return True

    def _reads_statement(self, depth, bare):
        statement = _statement_told(bare)
        if statement is None or not self._takes_statement(depth):
            return False
        self._close(depth)
        if statement[0] == "if":
            self.heads.append((statement[1], None))
            self.blocks.append([])
            self.last = "if"
        else:
            self.blocks[-1].append(statement)
            self.last = None
        return True

    def _takes_statement(self, depth):
        if not self.is_complete():
            return depth == len(self.heads)
        if self.last == "pass":
            return depth < len(self.heads)
        return depth <= len(self.heads)

    def _close(self, depth):
        """Close all blocks that lie in more than so many if statements."""
        while len(self.heads) > depth:
            test, yes = self.heads.pop()
            inner = tuple(self.blocks.pop())
            if yes is None:
                self.blocks[-1].append(("if", test, inner, ()))
            else:
                self.blocks[-1].append(("if", test, yes, inner))


def game_text(game):
    """Return the text of the game."""
    sizes, keys, first, block = game
    lines = []
    for head, numbers in zip(_HEADS, (sizes, (keys,), first)):
        lines.append(" ".join([head] + [str(number) for number in numbers]))
    return "\n".join(lines + _block_lines(block, ""))


def parse_game(value):
    """Return the game whose text this is, or raise BadText or BadGame."""
    if not isinstance(value, str):
        raise BadText(None)
    lines = value.split("\n")
    told = []
    for index, head in enumerate(_HEADS):
        if index == len(lines):
            raise BadText(index)
        numbers = _numbers_told(head, lines[index])
        if numbers is None:
            raise BadText(index)
        told.append(numbers)
    sizes, keys, first = told
    game = (sizes, keys[0], first, _block_told(lines))
    error = game_error(game)
    if error is not None:
        raise BadGame(error)
    return game


def _block_lines(block, indent):
    lines = []
    for statement in block:
        lines.extend(_statement_lines(statement, indent))
    return lines


def _statement_lines(statement, indent):
    if statement[0] == "stop":
        return [indent + "stop"]
    if statement[0] == "set":
        return [indent + "set " + letter_of(statement[1]) + " " + expression_text(statement[2])]
    inner = indent + _INDENT
    lines = [indent + "if " + condition_text(statement[1])]
    lines.extend(_block_lines(statement[2], inner) or [inner + "pass"])
    if statement[3]:
        lines.append(indent + "else")
        lines.extend(_block_lines(statement[3], inner))
    return lines


def _numbers_told(head, line):
    """Return the tuple of the integers behind the head of the line, or None."""
    words = line.split(" ")
    numbers = tuple([number_told(word, MOST_DIGITS) for word in words[1:]])
    if words[0] != head or len(numbers) == 0 or None in numbers:
        return None
    if head == "keys" and len(numbers) > 1:
        return None
    return numbers


def _block_told(lines):
    """Return the block that the lines behind the first three tell."""
    block = Block()
    for index in range(len(_HEADS), len(lines)):
        if not block.reads(lines[index]):
            raise BadText(index)
    if not block.is_complete():
        raise BadText(len(lines))
    return block.statements()


def _statement_told(bare):
    """Return the statement of a line, ("if", test) for an if statement, or None."""
    if bare == "stop":
        return ("stop",)
    word, _, rest = bare.partition(" ")
    if word == "if":
        test = condition_told(rest)
        return None if test is None else ("if", test)
    letter, _, text = rest.partition(" ")
    field, expression = field_told(letter), expression_told(text)
    if word != "set" or field is None or expression is None:
        return None
    return ("set", field, expression)
