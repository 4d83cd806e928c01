"""Programs and expressions are written as texts."""

from flowreprise.expressions import COMPARING, GROUPS
from flowreprise.parts import LITERALS, parts_of
from flowreprise.values import show_type, show_value

# How much signs in front and indexes bind, beside the groups of the signs between two parts.
FRONT = 7
INDEXED = 8
WORDS_OF_FRONTS = {"not": "not ", "neg": "-"}
WORDS_WITH_ONE_PART = {"size": "size", "text of": "text", "random": "random"}
SPACE = "  "


def show_expression(tree):
    """Returns the text of an expression."""
    return _shown(tree, 0)


def _shown(tree, least):
    """Returns the text of an expression, in parentheses if it binds less than is needed."""
    text = _plain_text(tree)
    return f"({text})" if _binding(tree) < least else text


def _binding(tree):
    """Returns how much an expression binds."""
    if tree[0] == "op":
        return GROUPS[tree[1]]
    return FRONT if tree[0] in WORDS_OF_FRONTS else INDEXED


def _plain_text(tree):
    """Returns the text of an expression without parentheses around it."""
    word = tree[0]
    if word in LITERALS:
        return show_value(tree)
    if word == "var":
        return tree[1]
    if word == "now":
        return word
    if word == "op":
        return _text_between(tree)
    if word in WORDS_OF_FRONTS:
        return WORDS_OF_FRONTS[word] + _shown(tree[1], FRONT)
    if word == "item":
        return _shown(tree[1], INDEXED) + "[" + show_expression(tree[2]) + "]"
    if word == "list":
        items = _listed(tree)
        return "[" + show_type(tree[1]) + (": " + items if items else ":") + "]"
    if word == "await":
        return "await " + _request_text(tree)
    name = tree[1] if word == "call" else WORDS_WITH_ONE_PART[word]
    return name + _enclosed(tree)


def _text_between(tree):
    _, sign, one, other = tree
    group = GROUPS[sign]
    # Signs of one group are read from the left, but two that compare do not stand beside each other.
    least = group + 1 if group == COMPARING else group
    return _shown(one, least) + f" {sign} " + _shown(other, group + 1)


def _request_text(tree):
    """Returns the text of a request behind "await"."""
    word = tree[1]
    if word == "timer":
        return word + _enclosed(tree)
    text = word + " " + tree[2]
    if word == "flow":
        return text + _enclosed(tree)
    if word == "act":
        text = text + _enclosed(tree)
    return text + ": " + show_type(tree[-1])


def _listed(tree):
    return ", ".join([show_expression(part) for part in parts_of(tree)])


def _enclosed(tree):
    return "(" + _listed(tree) + ")"


def show_program(program):
    """Returns the text of a program."""
    return "\n\n".join([_shown_function(function) for function in program])


def _shown_function(function):
    _, name, params, kind, body = function
    told = ", ".join([f"{param}: {show_type(inner)}" for param, inner in params])
    head = f"fn {name}({told}): {show_type(kind)} " + "{"
    return "\n".join([head] + _body_lines(body, 1) + ["}"])


def _body_lines(body, depth):
    """Returns the lines of the statements of a body that stands inside of so many bodies, itself counted."""
    lines = []
    for statement in body:
        lines.extend(_statement_lines(statement, depth))
    return lines


def _statement_lines(statement, depth):
    space = SPACE * depth
    word = statement[0]
    if word in ("let", "set"):
        return [f"{space}{word} {statement[1]} = {show_expression(statement[2])};"]
    if word in ("return", "do", "fail"):
        return [f"{space}{word} {show_expression(statement[1])};"]
    if word == "try":
        first, last = statement[1], statement[3]
        lines = [space + "try {"] + _body_lines(first, depth + 1) + [space + "} catch " + statement[2] + " {"]
        return lines + _body_lines(last, depth + 1) + [space + "}"]
    lines = [f"{space}{word} {show_expression(statement[1])} " + "{"] + _body_lines(statement[2], depth + 1)
    if word == "if" and statement[3]:
        lines = lines + [space + "} else {"] + _body_lines(statement[3], depth + 1)
    return lines + [space + "}"]
