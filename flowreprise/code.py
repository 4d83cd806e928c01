"""What instructions of code take, make and lead to."""

from flowreprise.operations import inverted, item_of, list_of, negated, operate, size_of, text_of

TAKES_NONE = ("push", "get", "jump", "guard", "unguard")
TAKES_TWO = ("op", "item")
ENDS = ("return", "fail")
FAILING_SIGNS = ("+", "-", "*", "/", "&")
FAILING_WORDS = ("list", "item", "call", "ask", "fail")
ASKS_WITHOUT_VALUE = ("signal", "now")


def taken(instruction):
    """Returns how many values an instruction takes from the stack."""
    word = instruction[0]
    if word in TAKES_NONE:
        return 0
    if word in TAKES_TWO:
        return 2
    if word in ("list", "call"):
        return instruction[2]
    if word == "ask":
        return _taken_by_request(instruction)
    return 1


def _taken_by_request(instruction):
    if instruction[1] == "flow":
        return instruction[3]
    return 0 if instruction[1] in ASKS_WITHOUT_VALUE else 1


def may_fail(instruction):
    """Returns whether an instruction may fail."""
    if instruction[0] == "op":
        return instruction[1] in FAILING_SIGNS
    return instruction[0] in FAILING_WORDS


def made(instruction, values):
    """Returns what an operation or "list" makes of a list of values."""
    word = instruction[0]
    if word == "op":
        return operate(instruction[1], values[0], values[1])
    if word == "item":
        return item_of(values[0], values[1])
    if word == "list":
        return list_of(values)
    return _made_of_one(word, values[0])


def _made_of_one(word, value):
    if word == "not":
        return inverted(value)
    if word == "neg":
        return negated(value)
    if word == "size":
        return size_of(value)
    return text_of(value)


def targets(code, at):
    """Returns the places of a list of instructions that may follow one without a failure."""
    instruction = code[at]
    if instruction[0] == "jump":
        return [instruction[1]]
    if instruction[0] == "unless":
        return [at + 1, instruction[1]]
    if instruction[0] in ENDS:
        return []
    return [at + 1]


def leaders(code):
    """Returns the ascending list of 0 and all places to which an instruction leads."""
    told = [instruction[1] for instruction in code if instruction[0] in ("jump", "unless", "guard")]
    return sorted(set([0] + told))
