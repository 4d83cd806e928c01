"""Where everything stands in the functions of a program."""

from flowreprise.parts import bodies_of, expression_of, parts_of


def rows_of(program, at):
    """Returns what stands in the function with an index, as triples.

    They are a place, the statement or expression there, and whether a failure
    is caught, as it stands in the first body of a "try". Parts come before
    what they stand in.
    """
    rows = []
    _add_body(rows, program[at][4], (at,), False)
    return rows


def _add_body(rows, body, before, is_caught):
    for k, statement in enumerate(body):
        _add_statement(rows, statement, before + (k,), is_caught)


def _add_statement(rows, statement, place, is_caught):
    tree = expression_of(statement)
    if tree is not None:
        _add_expression(rows, tree, place + (0,), is_caught)
    for k, body in enumerate(bodies_of(statement)):
        is_tried = statement[0] == "try" and k == 0
        _add_body(rows, body, place + (k + 1,), is_caught or is_tried)
    rows.append((place, statement, is_caught))


def _add_expression(rows, tree, place, is_caught):
    for k, part in enumerate(parts_of(tree)):
        _add_expression(rows, part, place + (k,), is_caught)
    rows.append((place, tree, is_caught))
