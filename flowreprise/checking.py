"""Programs are checked: their names, their types, and that their functions end."""

from flowreprise.compiling import signatures
from flowreprise.errors import CheckError
from flowreprise.parts import LITERALS, bodies_of, expression_of, parts_of
from flowreprise.soundness import called, listed, made_by_sign, made_by_word

TRUTH_SIGNS = ("and", "or")

# The types that the expressions of statements must have.
WANTED = {"if": "bool", "while": "bool", "fail": "int"}


class Scope:
    """What is known of a function while its statements are checked."""

    def __init__(self, sorts, kind):
        self.sorts = sorts
        self.kind = kind
        self.begun = {}

    def begin(self, name, place):
        """Begins a name, which is a fault at a place if it was begun before."""
        if name in self.begun:
            raise CheckError(place)
        self.begun[name] = True

    def wanted(self, word, kind):
        """Returns the type that the expression of a statement must have, which may be its own."""
        if word == "return":
            return self.kind
        return WANTED.get(word, kind)


def check_program(program):
    """Returns None for a checked program."""
    seen = {}
    for at, function in enumerate(program):
        if function[1] in seen:
            raise CheckError((at,))
        seen[function[1]] = True
    sorts = signatures(program)
    for at, function in enumerate(program):
        _check_function(Scope(sorts, function[3]), function, (at,))


def _check_function(scope, function, place):
    for name, _ in function[2]:
        scope.begin(name, place)
    _check_body(scope, function[4], dict(function[2]), place)
    if not _ends(function[4]):
        raise CheckError(place)


def _ends(body):
    return any([_is_end(statement) for statement in body])


def _is_end(statement):
    if statement[0] in ("if", "try"):
        return all([_ends(body) for body in bodies_of(statement)])
    return statement[0] in ("return", "fail")


def _check_body(scope, body, outer, before):
    """Checks a body, for the names that are known around it and the place in front of those in it."""
    names = dict(outer)
    for k, statement in enumerate(body):
        place = before + (k,)
        if statement[0] == "try":
            _check_try(scope, statement, names, place)
        else:
            kind = _check_statement(scope, statement, names, place)
            if statement[0] == "let":
                names[statement[1]] = kind


def _check_try(scope, statement, names, place):
    _check_body(scope, statement[1], names, place + (1,))
    scope.begin(statement[2], place)
    caught = dict(names)
    caught[statement[2]] = "int"
    _check_body(scope, statement[3], caught, place + (2,))


def _check_statement(scope, statement, names, place):
    """Checks a statement with an expression, and returns the type of this."""
    word = statement[0]
    kind = _kind_of(scope.sorts, names, expression_of(statement), place + (0,))
    if kind != scope.wanted(word, kind):
        raise CheckError(place + (0,))
    for k, body in enumerate(bodies_of(statement)):
        _check_body(scope, body, names, place + (k + 1,))
    if word == "let":
        scope.begin(statement[1], place)
    if word == "set" and names.get(statement[1]) != kind:
        raise CheckError(place)
    return kind


def type_of_expression(program, names, tree):
    """Returns the type of an expression, for the functions of a program and names with their types."""
    return _kind_of(signatures(program), names, tree, (0,))


def _kind_of(sorts, names, tree, place):
    kinds = [_kind_of(sorts, names, part, place + (k,)) for k, part in enumerate(parts_of(tree))]
    kind = names.get(tree[1]) if tree[0] == "var" else _made_kind(sorts, tree, kinds)
    if kind is None:
        raise CheckError(place)
    return kind


def _made_kind(sorts, tree, kinds):
    """Returns the type that an expression makes of those of its parts, or None if it needs others."""
    word = tree[0]
    if word in LITERALS:
        return word
    if word == "op":
        return _kind_by_sign(tree[1], kinds)
    if word == "list":
        return listed(tree[1], kinds)
    if word == "call":
        return called(tree[1], kinds, sorts)
    if word == "now":
        return "int"
    if word == "random":
        return "int" if kinds[0] == "int" else None
    if word == "await":
        return _awaited_kind(sorts, tree, kinds)
    return made_by_word(word, kinds)


def _kind_by_sign(sign, kinds):
    if sign in TRUTH_SIGNS:
        return "bool" if kinds == ["bool", "bool"] else None
    return made_by_sign(sign, kinds[0], kinds[1])


def _awaited_kind(sorts, tree, kinds):
    if tree[1] == "act":
        return tree[4]
    if tree[1] == "signal":
        return tree[3]
    if tree[1] == "flow":
        return called(tree[2], kinds, sorts)
    return "nothing" if kinds[0] == "int" else None
