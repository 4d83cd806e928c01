"""What runs make of values of types that are not needed.

A flow of a fleet may be given them: its child goes on with the version with
which it has begun, and so may give a value of another type than the version
needs to which the flow has moved. And what is compared for a flow may be two
functions with other parameters.
"""

from flowreprise.code import made
from flowreprise.failures import OTHER_TYPE
from flowreprise.values import fits, joined, known_type

OF_INTEGERS = ("+", "-", "*", "/")
IN_ORDER = ("<", "<=")
# The words of the values that something needs.
OF_ONE = {"not": ("bool",), "neg": ("int",), "size": ("text", "list"), "text of": ("int", "bool")}
OF_STATEMENT = {"if": "bool", "while": "bool", "fail": "int"}


def named(names, name):
    """Returns the value of a name, or a failure for a parameter without a value."""
    return ("ok", names[name]) if name in names else ("failed", OTHER_TYPE)


def is_needed(statement, value):
    """Returns whether a value is of the type that the expression of a statement needs, if it needs one."""
    return statement[0] not in OF_STATEMENT or value[0] == OF_STATEMENT[statement[0]]


def made_of_any(tree, values):
    """Returns what an operation, or a list, makes of values of any types."""
    if _are_needed(tree, values):
        return made(tree, values)
    return ("failed", OTHER_TYPE)


def _are_needed(tree, values):
    """Returns whether values are of types that an operation, or a list, needs."""
    word = tree[0]
    if word == "op":
        return _are_joined_by(tree[1], values[0], values[1])
    if word == "list":
        return all([fits(value, tree[1]) for value in values])
    if word == "item":
        return values[0][0] == "list" and values[1][0] == "int"
    return values[0][0] in OF_ONE[word]


def _are_joined_by(sign, one, other):
    words = [one[0], other[0]]
    if sign in OF_INTEGERS:
        return words == ["int", "int"]
    if sign in IN_ORDER:
        return words in (["int", "int"], ["text", "text"])
    if sign == "&":
        return words == ["text", "text"] or words == ["list", "list"] and _have_one_type(one, other)
    # Whether they are the same is told of any two values.
    return True


def _have_one_type(one, other):
    return joined(known_type(one), known_type(other)) is not False
