"""What operations make of values: a value, or a failure with a code."""

from flowreprise.failures import NO_ITEM, NO_QUOTIENT, TOO_GREAT
from flowreprise.values import (
    MOST_DEPTH, MOST_ITEMS, MOST_LETTERS, MOST_NUMBER, fits, is_bounded, is_type, known_type, list_depth)


def _number(n):
    if -MOST_NUMBER <= n <= MOST_NUMBER:
        return ("ok", ("int", n))
    return ("failed", TOO_GREAT)


def _letters(text):
    if len(text) <= MOST_LETTERS:
        return ("ok", ("text", text))
    return ("failed", TOO_GREAT)


def _calculated(sign, m, n):
    if sign == "+":
        return _number(m + n)
    if sign == "-":
        return _number(m - n)
    if sign == "*":
        return _number(m * n)
    if n == 0:
        return ("failed", NO_QUOTIENT)
    return _number(m // n)


def _joined_up(a, b):
    if a[0] == "text":
        return _letters(a[1] + b[1])
    return list_of(a[1] + b[1])


def _compared(sign, a, b):
    if sign == "=":
        return a == b
    if sign == "!=":
        return a != b
    if sign == "<":
        return a[1] < b[1]
    return a[1] <= b[1]


def operate(sign, a, b):
    """Returns what the operation of a sign makes of two values."""
    if sign in ("+", "-", "*", "/"):
        return _calculated(sign, a[1], b[1])
    if sign == "&":
        return _joined_up(a, b)
    return ("ok", ("bool", _compared(sign, a, b)))


def inverted(a):
    """Returns what "not" makes of a truth."""
    return ("ok", ("bool", not a[1]))


def negated(a):
    """Returns what "neg" makes of an integer."""
    return _number(-a[1])


def item_of(a, index):
    """Returns the item of a list at an index."""
    if 0 <= index[1] < len(a[1]):
        return ("ok", a[1][index[1]])
    return ("failed", NO_ITEM)


def size_of(a):
    """Returns the number of characters of a text, or of items of a list."""
    return ("ok", ("int", len(a[1])))


def text_of(a):
    """Returns the text of an integer or a truth."""
    if a[0] == "int":
        return _letters(str(a[1]))
    return _letters("true" if a[1] else "false")


def list_of(items):
    """Returns the list of values of one type."""
    made = ("list", tuple(items))
    # A list that no value may be, as it has too many items or is too deep, is not made.
    if len(items) <= MOST_ITEMS and list_depth(made) <= MOST_DEPTH:
        return ("ok", made)
    return ("failed", TOO_GREAT)


def is_value(value):
    """Returns whether a tuple of one of the five kinds has the bounds of a value."""
    return is_bounded(value) and known_type(value) is not False


def is_of(value, sort):
    """Returns whether it is a value of a type."""
    return is_type(sort) and is_value(value) and fits(value, sort)
