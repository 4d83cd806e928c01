"""Programs and expressions are read from texts."""

from flowreprise.expressions import read_tree
from flowreprise.reader import Reader, check_room, read_kind, read_name
from flowreprise.words import END

MOST_FUNCTIONS = 20
MOST_PARAMETERS = 8
MOST_STATEMENTS = 50


def read_program(text):
    """Returns the program of a text."""
    reader = Reader(text)
    program = [_read_function(reader)]
    while reader.here() != END:
        check_room(reader, len(program), MOST_FUNCTIONS)
        program.append(_read_function(reader))
    return program


def read_expression(text):
    """Returns the expression of a text."""
    reader = Reader(text)
    tree = read_tree(reader)
    reader.take(END)
    return tree


def _read_function(reader):
    reader.take("fn")
    name = read_name(reader)
    params = _read_parameters(reader)
    reader.take(":")
    kind = read_kind(reader)
    return ("fn", name, params, kind, _read_body(reader))


def _read_parameters(reader):
    reader.take("(")
    if reader.here() == ")":
        reader.take(")")
        return []
    params = [_read_parameter(reader)]
    while reader.here() == ",":
        reader.take(",")
        check_room(reader, len(params), MOST_PARAMETERS)
        params.append(_read_parameter(reader))
    reader.take(")")
    return params


def _read_parameter(reader):
    name = read_name(reader)
    reader.take(":")
    return (name, read_kind(reader))


def _read_body(reader):
    reader.enter_body()
    body = []
    while reader.here() != "}":
        check_room(reader, len(body), MOST_STATEMENTS)
        body.append(_read_statement(reader))
    reader.leave_body()
    return body


def _read_statement(reader):
    word = reader.here()
    if word in ("let", "set"):
        return _read_assignment(reader)
    if word in ("return", "do", "fail"):
        reader.take(word)
        tree = read_tree(reader)
        reader.take(";")
        return (word, tree)
    if word == "if":
        return _read_if(reader)
    if word == "while":
        reader.take("while")
        tree = read_tree(reader)
        return ("while", tree, _read_body(reader))
    return _read_try(reader)


def _read_assignment(reader):
    word = reader.here()
    reader.take(word)
    name = read_name(reader)
    reader.take("=")
    tree = read_tree(reader)
    reader.take(";")
    return (word, name, tree)


def _read_if(reader):
    reader.take("if")
    tree = read_tree(reader)
    first = _read_body(reader)
    if reader.here() != "else":
        return ("if", tree, first, [])
    reader.take("else")
    return ("if", tree, first, _read_body(reader))


def _read_try(reader):
    reader.take("try")
    first = _read_body(reader)
    reader.take("catch")
    name = read_name(reader)
    return ("try", first, name, _read_body(reader))
