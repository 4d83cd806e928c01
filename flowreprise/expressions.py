"""Expressions are read from words, each together with the depth of its tree."""

from flowreprise.errors import ReadError
from flowreprise.reader import check_room, read_kind, read_name, read_shallow_kind
from flowreprise.values import MOST_DEPTH, MOST_ITEMS
from flowreprise.words import NAME, NUMBER, STRING

# The groups of the signs and words between two parts, the weakest one first.
GROUPS = {
    "or": 1, "and": 2, "=": 3, "!=": 3, "<": 3, "<=": 3, "&": 4, "+": 5, "-": 5, "*": 6, "/": 6}
COMPARING = 3
FRONTS = {"not": "not", "-": "neg"}
PLAIN = {"true": ("bool", True), "false": ("bool", False), "nothing": ("nothing",), "now": ("now",)}
WITH_ONE_PART = {"size": "size", "text": "text of", "random": "random"}
MOST_ARGUMENTS = 8
MOST_TREE = 30


def read_tree(reader):
    """Reads an expression and returns its tree."""
    tree, _ = _read_deep(reader)
    return tree


def _built(tree, depth, place):
    """Returns an expression that has been read, for the place of its sign or word."""
    if depth > MOST_TREE:
        raise ReadError(place)
    return tree, depth


def _read_deep(reader):
    """Reads an expression and returns its tree and depth."""
    parts = [_read_operand(reader)]
    signs = []
    while reader.here() in GROUPS:
        sign, place = reader.here(), reader.where()
        _build_stronger(parts, signs, sign, place)
        reader.take(sign)
        signs.append((sign, place))
        parts.append(_read_operand(reader))
    while signs:
        _build_last(parts, signs)
    return parts[0]


def _build_stronger(parts, signs, sign, place):
    """Builds what is complete before a sign, as what stands there binds as much or more."""
    while signs and GROUPS[signs[-1][0]] >= GROUPS[sign]:
        group = GROUPS[signs[-1][0]]
        _build_last(parts, signs)
        if group == COMPARING and GROUPS[sign] == COMPARING:
            raise ReadError(place)


def _build_last(parts, signs):
    sign, place = signs.pop()
    right, right_depth = parts.pop()
    left, left_depth = parts.pop()
    parts.append(_built(("op", sign, left, right), max(left_depth, right_depth) + 1, place))


def _read_operand(reader):
    """Reads a part between signs, with what stands in front of it."""
    word, place = reader.here(), reader.where()
    if word not in FRONTS:
        return _read_indexes(reader, _read_first(reader))
    reader.enter(word)
    part, depth = _read_operand(reader)
    reader.leave_front()
    return _built((FRONTS[word], part), depth + 1, place)


def _read_indexes(reader, first):
    tree, depth = first
    while reader.here() == "[":
        place = reader.where()
        reader.enter("[")
        index, index_depth = _read_deep(reader)
        reader.leave("]")
        tree, depth = _built(("item", tree, index), max(depth, index_depth) + 1, place)
    return tree, depth


def _read_first(reader):
    """Reads an expression without signs in front and indexes behind it."""
    word = reader.here()
    if word == NUMBER:
        return ("int", reader.take(NUMBER)), 1
    if word == STRING:
        return ("text", reader.take(STRING)), 1
    if word in PLAIN:
        reader.take(word)
        return PLAIN[word], 1
    if word == NAME:
        return _read_named(reader)
    if word == "(":
        return _read_enclosed(reader)
    if word == "[":
        return _read_list(reader)
    if word in WITH_ONE_PART:
        return _read_with_part(reader)
    return _read_await(reader)


def _read_enclosed(reader):
    reader.enter("(")
    part = _read_deep(reader)
    reader.leave(")")
    return part


def _read_with_part(reader):
    word, place = reader.here(), reader.where()
    reader.take(word)
    part, depth = _read_enclosed(reader)
    return _built((WITH_ONE_PART[word], part), depth + 1, place)


def _read_named(reader):
    place = reader.where()
    name = read_name(reader)
    if reader.here() != "(":
        return ("var", name), 1
    parts, depth = _read_arguments(reader)
    return _built(("call", name, parts), depth + 1, place)


def _read_arguments(reader):
    reader.enter("(")
    return _read_parts(reader, ")", MOST_ARGUMENTS)


def _read_parts(reader, closing, most):
    """Reads expressions up to a closing sign, and returns them and the greatest depth, or 0."""
    if reader.here() == closing:
        reader.leave(closing)
        return [], 0
    part, depth = _read_deep(reader)
    parts = [part]
    while reader.here() == ",":
        reader.take(",")
        check_room(reader, len(parts), most)
        part, part_depth = _read_deep(reader)
        parts.append(part)
        depth = max(depth, part_depth)
    reader.leave(closing)
    return parts, depth


def _read_list(reader):
    place = reader.where()
    reader.enter("[")
    kind = read_shallow_kind(reader, MOST_DEPTH - 1)
    reader.take(":")
    parts, depth = _read_parts(reader, "]", MOST_ITEMS)
    return _built(("list", kind, parts), depth + 1, place)


def _read_await(reader):
    place = reader.where()
    reader.take("await")
    word = reader.here()
    if word == "act":
        return _read_act(reader, place)
    if word == "signal":
        return _read_signal(reader)
    if word == "flow":
        reader.take("flow")
        name = read_name(reader)
        parts, depth = _read_arguments(reader)
        return _built(("await", "flow", name, parts), depth + 1, place)
    reader.take("timer")
    part, depth = _read_enclosed(reader)
    return _built(("await", "timer", part), depth + 1, place)


def _read_act(reader, place):
    reader.take("act")
    name = read_name(reader)
    part, depth = _read_enclosed(reader)
    reader.take(":")
    kind = read_kind(reader)
    return _built(("await", "act", name, part, kind), depth + 1, place)


def _read_signal(reader):
    reader.take("signal")
    name = read_name(reader)
    reader.take(":")
    return ("await", "signal", name, read_kind(reader)), 1
