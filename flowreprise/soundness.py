"""What one instruction makes of the types on the stack, if it is sound for them."""

from flowreprise.operations import is_value
from flowreprise.values import kind_of


def is_list_kind(kind):
    """Returns whether a type is one of lists."""
    return isinstance(kind, tuple)


def made_by_sign(sign, one, other):
    """Returns the type that the operation of a sign makes of two types, or None if it needs others."""
    if sign in ("+", "-", "*", "/"):
        return "int" if one == other == "int" else None
    if one != other:
        return None
    if sign == "&":
        return one if one == "text" or is_list_kind(one) else None
    if sign in ("<", "<="):
        return "bool" if one in ("int", "text") else None
    return "bool"


def made_by_word(word, kinds):
    """Returns the type that "not" and the like make of types, or None if they need others."""
    one = kinds[0]
    if word == "not":
        return "bool" if one == "bool" else None
    if word == "neg":
        return "int" if one == "int" else None
    if word == "size":
        return "int" if one == "text" or is_list_kind(one) else None
    if word == "text of":
        return "text" if one in ("int", "bool") else None
    return one[1] if is_list_kind(one) and kinds[1] == "int" else None


def answered(instruction, kinds, signatures):
    """Returns the type of the answer to the request of "ask", or None if it needs other values."""
    word = instruction[1]
    if word in ("act", "signal"):
        return instruction[3]
    if word == "now":
        return "int"
    if word == "flow":
        kind = called(instruction[2], kinds, signatures)
        return kind if kind == instruction[4] else None
    if kinds[0] != "int":
        return None
    return "nothing" if word == "timer" else "int"


def called(name, kinds, signatures):
    """Returns the type of what a function gives for values of types, or None if it needs others."""
    if name not in signatures or signatures[name][0] != list(kinds):
        return None
    return signatures[name][1]


def pushed(value):
    """Returns the type of a value that may be pushed, or None."""
    if kind_of(value) == "list" or not is_value(value):
        return None
    return kind_of(value)


def listed(kind, kinds):
    """Returns the type of a list of values of types, or None if they are not of the wanted one."""
    return ("list", kind) if all([one == kind for one in kinds]) else None
