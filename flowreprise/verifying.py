"""Code is shown to be sound by what holds at each of its places."""

from flowreprise.code import may_fail, taken, targets
from flowreprise.errors import VerifyError
from flowreprise.soundness import answered, called, listed, made_by_sign, made_by_word, pushed

# The instructions with a slot or a count, and where in them it stands.
SLOTS = {"get": 1, "put": 1, "guard": 2}
COUNTS = {"list": 2, "call": 2}


def first_state(code, signature):
    """Returns the state at the beginning of code."""
    untold = [None] * (code[3] - len(signature[0]))
    return ((), tuple(list(signature[0]) + untold), ())


def next_states(code, at, state, signatures):
    """Returns the pairs of a place and a state that follow a place, or None if it is not sound."""
    instruction = code[4][at]
    stack, slots, guards = state
    height = len(stack) - taken(instruction)
    if height < 0:
        return None
    added = _added(code, instruction, state, signatures)
    if added is None:
        return None
    after = (
        stack[:height] + added, _slots_after(instruction, stack, slots), _guards_after(instruction, height, guards))
    pairs = [(place, after) for place in targets(code[4], at)]
    if may_fail(instruction) and guards:
        pairs.append(_failed(state))
    return pairs


def _added(code, instruction, state, signatures):
    """Returns the tuple of the types that an instruction puts on the stack, or None if it is not sound."""
    stack, slots, guards = state
    word = instruction[0]
    kinds = stack[len(stack) - taken(instruction):]
    if word == "unless":
        return () if kinds[0] == "bool" else None
    if word == "fail":
        return () if kinds[0] == "int" else None
    if word == "return":
        return () if stack == (signatures[code[1]][1],) else None
    if word == "unguard":
        return () if guards and guards[-1][2] == len(stack) else None
    if word in ("put", "drop", "jump", "guard"):
        return ()
    kind = slots[instruction[1]] if word == "get" else _made_kind(instruction, kinds, signatures)
    return None if kind is None else (kind,)


def _made_kind(instruction, kinds, signatures):
    """Returns the type of the one value that an instruction puts on the stack, or None."""
    word = instruction[0]
    if word == "push":
        return pushed(instruction[1])
    if word == "op":
        return made_by_sign(instruction[1], kinds[0], kinds[1])
    if word == "list":
        return listed(instruction[1], kinds)
    if word == "call":
        return called(instruction[1], kinds, signatures)
    if word == "ask":
        return answered(instruction, kinds, signatures)
    return made_by_word(word, kinds)


def _slots_after(instruction, stack, slots):
    if instruction[0] != "put":
        return slots
    return _with_kind(slots, instruction[1], stack[-1])


def _with_kind(slots, slot, kind):
    return slots[:slot] + (kind,) + slots[slot + 1:]


def _guards_after(instruction, height, guards):
    if instruction[0] == "guard":
        return guards + ((instruction[1], instruction[2], height),)
    if instruction[0] == "unguard":
        return guards[:-1]
    return guards


def _failed(state):
    """Returns the place and the state to which a failure leads, by the last guard."""
    stack, slots, guards = state
    place, slot, height = guards[-1]
    return place, (stack[:height], _with_kind(slots, slot, "int"), guards[:-1])


def misformed(code, signature):
    """Returns the least place of code whose instruction is not formed, 0 if it is the function, or None."""
    _, _, params, slots, rows = code
    if not rows or slots < params or params != len(signature[0]):
        return 0
    for at, instruction in enumerate(rows):
        if not (_is_placed(rows, at) and _is_slotted(instruction, slots) and _is_counted(instruction)):
            return at
    return None


def _is_placed(rows, at):
    instruction = rows[at]
    told = list(targets(rows, at))
    if instruction[0] == "guard":
        told.append(instruction[1])
    return all([0 <= place < len(rows) for place in told])


def _is_slotted(instruction, slots):
    if instruction[0] not in SLOTS:
        return True
    return 0 <= instruction[SLOTS[instruction[0]]] < slots


def _is_counted(instruction):
    if instruction[0] in COUNTS:
        return instruction[COUNTS[instruction[0]]] >= 0
    if instruction[0] == "ask" and instruction[1] == "flow":
        return instruction[3] >= 0
    return True


def verify(codes, signatures):
    """Returns the paper of the least states that show that code is sound."""
    paper = {}
    for name in sorted(codes):
        place = misformed(codes[name], signatures[name])
        if place is not None:
            raise VerifyError(name, place)
        paper[name] = _least_states(name, codes[name], signatures)
    return paper


def _least_states(name, code, signatures):
    states = [None] * len(code[4])
    states[0] = first_state(code, signatures[name])
    is_due = [False] * len(states)
    is_due[0] = True
    while True in is_due:
        at = is_due.index(True)
        is_due[at] = False
        pairs = next_states(code, at, states[at], signatures)
        if pairs is None:
            raise VerifyError(name, at)
        for place, state in pairs:
            both = _joined_states(states[place], state)
            if both is None:
                raise VerifyError(name, place)
            if both != states[place]:
                states[place] = both
                is_due[place] = True
    return states


def _joined_states(old, fresh):
    """Returns what holds by both states, or None if they cannot be joined; the old one may be None."""
    if old is None:
        return fresh
    if old[0] != fresh[0] or old[2] != fresh[2]:
        return None
    slots = [one if one == other else None for one, other in zip(old[1], fresh[1])]
    return (old[0], tuple(slots), old[2])


def paper_right(codes, signatures, paper):
    """Returns whether a paper shows that code is sound."""
    if sorted(codes) != sorted(paper):
        return False
    return all([_states_right(codes[name], signatures[name], signatures, paper[name]) for name in sorted(codes)])


def _states_right(code, signature, signatures, states):
    if misformed(code, signature) is not None or len(states) != len(code[4]):
        return False
    if not _fits_at(states, 0, first_state(code, signature)):
        return False
    for at, state in enumerate(states):
        if state is not None and not _leads_right(code, at, states, signatures):
            return False
    return True


def _leads_right(code, at, states, signatures):
    """Returns whether a place with a state is sound for it, and leads to states that fit."""
    if not _is_of_code(code, states[at]):
        return False
    pairs = next_states(code, at, states[at], signatures)
    return pairs is not None and all([_fits_at(states, place, after) for place, after in pairs])


def _is_of_code(code, state):
    """Returns whether the slots and guards of a state, which may be only told, can be those of code."""
    _, slots, guards = state
    if len(slots) != code[3]:
        return False
    return all([0 <= place < len(code[4]) and 0 <= slot < code[3] and height >= 0 for place, slot, height in guards])


def _fits_at(states, place, state):
    """Returns whether a state fits the one of its place."""
    if states[place] is None:
        return False
    stack, slots, guards = states[place]
    if state[0] != stack or state[2] != guards:
        return False
    return all([told is None or told == kind for kind, told in zip(state[1], slots)])
