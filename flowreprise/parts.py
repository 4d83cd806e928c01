"""What the trees of programs consist of."""

LITERALS = ("int", "bool", "text", "nothing")
OF_ONE_PART = ("not", "neg", "size", "text of", "random")


def parts_of(tree):
    """Returns the list of the parts of an expression, in their order in the tree."""
    word = tree[0]
    if word in OF_ONE_PART:
        return [tree[1]]
    if word == "op":
        return [tree[2], tree[3]]
    if word == "item":
        return [tree[1], tree[2]]
    if word in ("list", "call"):
        return list(tree[2])
    if word == "await":
        return _awaited_parts(tree)
    return []


def _awaited_parts(tree):
    if tree[1] == "act":
        return [tree[3]]
    if tree[1] == "timer":
        return [tree[2]]
    if tree[1] == "flow":
        return list(tree[3])
    return []


def expression_of(statement):
    """Returns the expression of a statement, or None for "try"."""
    if statement[0] == "try":
        return None
    if statement[0] in ("let", "set"):
        return statement[2]
    return statement[1]


def bodies_of(statement):
    """Returns the list of the bodies of a statement."""
    if statement[0] == "if":
        return [statement[2], statement[3]]
    if statement[0] == "while":
        return [statement[2]]
    if statement[0] == "try":
        return [statement[1], statement[3]]
    return []
