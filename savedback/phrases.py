"""Phrases: integers, fields, expressions and tests as texts, and what such texts tell.

What is read is taken in the wide sense, whether it is right in a game or not.
"""

MOST_DIGITS = 20

_MOST_DEEP = 20
_MOST_NOTS = 20

_LETTERS = ("a", "b", "c", "d")

_FIELDS = {"a": 0, "b": 1, "c": 2, "d": 3}

_SIGNS = {"plus": " + ", "minus": " - ", "times": " * ", "less": " < ", "same": " = "}

_SUMS = {" + ": "plus", " - ": "minus", " * ": "times"}

_TESTS = {" < ": "less", " = ": "same"}


def letter_of(field):
    """Return the letter of the field."""
    return _LETTERS[field]


def expression_text(expression):
    """Return the text of the expression."""
    if not isinstance(expression, tuple):
        return str(expression)
    if expression[0] == "field":
        return letter_of(expression[1])
    name, left, right = expression
    # The factor of "times" is an integer, which is written like the expression that it might be.
    return "(" + expression_text(left) + _SIGNS[name] + expression_text(right) + ")"


def condition_text(test):
    """Return the text of the test."""
    if test[0] == "not":
        return "not " + condition_text(test[1])
    name, left, right = test
    return expression_text(left) + _SIGNS[name] + expression_text(right)


def number_told(text, digits):
    """Return the integer whose text this is, with at most so many digits, or None."""
    bare = text[1:] if text.startswith("-") else text
    if not 1 <= len(bare) <= digits or not all([digit in "0123456789" for digit in bare]):
        return None
    if bare[0] == "0" and text != "0":
        return None
    return int(text)


def field_told(text):
    """Return the field whose letter this is, or None."""
    return _FIELDS.get(text)


def expression_told(text):
    """Return the expression whose text this is, or None."""
    found = _expression_at(text, 0, _MOST_DEEP)
    if found is None or found[1] != len(text):
        return None
    return found[0]


def condition_told(text):
    """Return the test whose text this is, or None."""
    nots = 0
    while text.startswith("not "):
        text = text[4:]
        nots = nots + 1
    left = _expression_at(text, 0, _MOST_DEEP)
    if nots > _MOST_NOTS or left is None:
        return None
    name = _TESTS.get(text[left[1]:left[1] + 3])
    right = expression_told(text[left[1] + 3:])
    if name is None or right is None:
        return None
    test = (name, left[0], right)
    for _ in range(nots):
        test = ("not", test)
    return test


def _expression_at(text, at, room):
    """Return the expression that begins there and the index behind it, or None.

    There are at most room expressions in one another.
    """
    if room == 0:
        return None
    if text[at:at + 1] != "(":
        return _leaf_at(text, at)
    left = _expression_at(text, at + 1, room - 1)
    if left is None:
        return None
    name = _SUMS.get(text[left[1]:left[1] + 3])
    if name is None or (name == "times" and not isinstance(left[0], int)):
        return None
    right = _expression_at(text, left[1] + 3, room - 1)
    if right is None or text[right[1]:right[1] + 1] != ")":
        return None
    return ((name, left[0], right[0]), right[1] + 1)


def _leaf_at(text, at):
    """Return the integer, "key" or field that begins there and the index behind it, or None."""
    end = at
    while end < len(text) and text[end] not in " ()":
        end = end + 1
    word = text[at:end]
    if word == "key":
        return (word, end)
    if field_told(word) is not None:
        return (("field", field_told(word)), end)
    number = number_told(word, MOST_DIGITS)
    if number is None:
        return None
    return (number, end)
