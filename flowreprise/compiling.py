"""Code is made of checked programs."""

from flowreprise.parts import LITERALS, expression_of, parts_of

AFTER_EXPRESSION = {"return": ("return",), "do": ("drop",), "fail": ("fail",)}


class Draft:
    """The code of one function while it is written."""

    def __init__(self, function, sorts):
        self.rows = []
        self.slots = {}
        self.sorts = sorts
        for name, _ in function[2]:
            self.slots[name] = len(self.slots)

    def write(self, instruction):
        """Puts an instruction behind the others, and returns its place."""
        self.rows.append(instruction)
        return len(self.rows) - 1

    def slot_of(self, name):
        """Returns the slot of a name, a new one where it is first put."""
        if name not in self.slots:
            self.slots[name] = len(self.slots)
        return self.slots[name]

    def lead(self, place, word):
        """Lets the instruction of a place lead to the next place that is written."""
        self.rows[place] = (word, len(self.rows))


def compile_program(program):
    """Returns a dict from the names of the functions of a checked program to their code."""
    sorts = signatures(program)
    return {function[1]: _code_of(function, sorts) for function in program}


def signatures(program):
    """Returns a dict from the names of the functions to the types of their parameters and their value."""
    return {function[1]: ([kind for _, kind in function[2]], function[3]) for function in program}


def _code_of(function, sorts):
    draft = Draft(function, sorts)
    _write_body(draft, function[4])
    draft.write(("push", ("nothing",)))
    draft.write(("return",))
    return ("code", function[1], len(function[2]), len(draft.slots), draft.rows)


def _write_body(draft, body):
    for statement in body:
        _write_statement(draft, statement)


def _write_statement(draft, statement):
    word = statement[0]
    if word == "try":
        _write_try(draft, statement)
    elif word == "while":
        _write_while(draft, statement)
    else:
        _write_expression(draft, expression_of(statement))
        if word == "if":
            _write_bodies(draft, statement)
        elif word in AFTER_EXPRESSION:
            draft.write(AFTER_EXPRESSION[word])
        else:
            draft.write(("put", draft.slot_of(statement[1])))


def _write_bodies(draft, statement):
    test = draft.write(("unless", 0))
    _write_body(draft, statement[2])
    leap = draft.write(("jump", 0))
    draft.lead(test, "unless")
    _write_body(draft, statement[3])
    draft.lead(leap, "jump")


def _write_while(draft, statement):
    start = len(draft.rows)
    _write_expression(draft, statement[1])
    test = draft.write(("unless", 0))
    _write_body(draft, statement[2])
    draft.write(("jump", start))
    draft.lead(test, "unless")


def _write_try(draft, statement):
    slot = draft.slot_of(statement[2])
    guard = draft.write(("guard", 0, slot))
    _write_body(draft, statement[1])
    draft.write(("unguard",))
    leap = draft.write(("jump", 0))
    draft.rows[guard] = ("guard", len(draft.rows), slot)
    _write_body(draft, statement[3])
    draft.lead(leap, "jump")


def _write_expression(draft, tree):
    word = tree[0]
    if word in LITERALS:
        draft.write(("push", tree))
    elif word == "var":
        draft.write(("get", draft.slots[tree[1]]))
    elif word == "op" and tree[1] == "and":
        _write_and(draft, tree)
    elif word == "op" and tree[1] == "or":
        _write_or(draft, tree)
    else:
        for part in parts_of(tree):
            _write_expression(draft, part)
        draft.write(_instruction_of(tree, draft.sorts))


def _write_and(draft, tree):
    _write_expression(draft, tree[2])
    test = draft.write(("unless", 0))
    _write_expression(draft, tree[3])
    leap = draft.write(("jump", 0))
    draft.lead(test, "unless")
    draft.write(("push", ("bool", False)))
    draft.lead(leap, "jump")


def _write_or(draft, tree):
    _write_expression(draft, tree[2])
    test = draft.write(("unless", 0))
    draft.write(("push", ("bool", True)))
    leap = draft.write(("jump", 0))
    draft.lead(test, "unless")
    _write_expression(draft, tree[3])
    draft.lead(leap, "jump")


def _instruction_of(tree, sorts):
    """Returns the instruction of an expression behind those of its parts."""
    word = tree[0]
    if word == "op":
        return ("op", tree[1])
    if word == "list":
        return ("list", tree[1], len(tree[2]))
    if word == "call":
        return ("call", tree[1], len(tree[2]))
    if word in ("now", "random"):
        return ("ask", word)
    if word == "await":
        return _request_of(tree, sorts)
    return (word,)


def _request_of(tree, sorts):
    if tree[1] == "act":
        return ("ask", "act", tree[2], tree[4])
    if tree[1] == "signal":
        return ("ask", "signal", tree[2], tree[3])
    if tree[1] == "flow":
        return ("ask", "flow", tree[2], len(tree[3]), sorts[tree[2]][1])
    return ("ask", "timer")
