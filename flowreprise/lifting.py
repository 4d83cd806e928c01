"""Ways through code are lifted to pieces, which do several instructions at one go."""

from flowreprise.code import leaders, made, may_fail, taken, targets

MOVING = ("push", "get", "put", "drop")
MAKING = ("op", "not", "neg", "item", "size", "text of", "list")
LEADING = ("jump", "unless")


def runs(code):
    """Returns the ascending list of the pairs of the first place and the end of the runs of instructions."""
    led = {place: True for place in leaders(code)}
    found = []
    start = 0
    for at in range(len(code)):
        if at in led or not _is_straight(code[at - 1]):
            start = at
        is_last = at + 1 == len(code) or at + 1 in led or not _is_straight(code[at + 1])
        if _is_straight(code[at]) and is_last:
            end = min(at + 1, len(code) - 1)
            if end - start >= 2:
                found.append((start, end))
    return found


def _is_straight(instruction):
    """Returns whether an instruction may stand in a run."""
    return instruction[0] in MOVING or instruction[0] in MAKING


def is_way(code, places):
    """Returns whether a list of integers is a way through a list of instructions."""
    if len(places) < 2 or not all([0 <= place < len(code) for place in places]):
        return False
    return all([_may_follow(code, at, place) for at, place in zip(places, places[1:])])


def _may_follow(code, at, place):
    if not _is_straight(code[at]) and code[at][0] not in LEADING:
        return False
    return place in targets(code, at)


class Lift:
    """A way on which a piece is read."""

    def __init__(self):
        self.takes = 0
        self.nodes = []
        self.slots = {}
        self.stack = []
        self.wants = []
        self.writes = {}

    def add_node(self, node):
        """Puts a node behind the others and returns its index."""
        self.nodes.append(node)
        return len(self.nodes) - 1

    def take(self):
        """Returns the node of the topmost value, which is taken from the stack."""
        if self.stack:
            return self.stack.pop()
        self.takes += 1
        return self.add_node(("in", self.takes - 1))

    def got(self, slot):
        """Returns the node of the value of a slot."""
        if slot in self.writes:
            return self.writes[slot]
        if slot not in self.slots:
            self.slots[slot] = self.add_node(("slot", slot))
        return self.slots[slot]

    def make(self, instruction):
        """Puts the node of an operation on the stack."""
        parts = [self.take() for _ in range(taken(instruction))]
        parts.reverse()
        self.stack.append(self.add_node(("make", instruction, parts)))

    def read(self, instruction, at, place):
        """Reads an instruction at a place, behind which another place follows on the way."""
        word = instruction[0]
        if word == "push":
            self.stack.append(self.add_node(instruction))
        elif word == "get":
            self.stack.append(self.got(instruction[1]))
        elif word == "put":
            self.writes[instruction[1]] = self.take()
        elif word == "drop":
            self.take()
        elif word == "unless":
            node = self.take()
            if instruction[1] != at + 1:
                self.wants.append((node, place == at + 1))
        elif word != "jump":
            self.make(instruction)


def lift(code, places):
    """Returns the piece of a way through a list of instructions."""
    lifted = Lift()
    for at, place in zip(places, places[1:]):
        lifted.read(code[at], at, place)
    ends = (places[0], places[-1], len(places) - 1)
    writes = [(slot, lifted.writes[slot]) for slot in sorted(lifted.writes)]
    return ("piece", ends, [], lifted.takes, lifted.nodes, lifted.wants, lifted.stack, writes)


def node_fails(node):
    """Returns whether a node may fail."""
    return node[0] == "make" and may_fail(node[1])


def done_at_once(piece, slots, stack):
    """Returns the slots and the stack behind a piece, or None if it gives way."""
    _, _, known, takes, nodes, wants, pushes, writes = piece
    if not all([slots[slot] == value for slot, value in known]):
        return None
    worth = _worked_out(nodes, slots, stack)
    if worth is None or not all([worth[node] == ("bool", truth) for node, truth in wants]):
        return None
    fresh = list(slots)
    for slot, node in writes:
        fresh[slot] = worth[node]
    return fresh, stack[:len(stack) - takes] + [worth[node] for node in pushes]


def _worked_out(nodes, slots, stack):
    """Returns the list of the values of nodes, or None if one fails."""
    worth = []
    for node in nodes:
        word, told = _result(node, slots, stack, worth)
        if word == "failed":
            return None
        worth.append(told)
    return worth


def _result(node, slots, stack, worth):
    if node[0] == "push":
        return ("ok", node[1])
    if node[0] == "slot":
        return ("ok", slots[node[1]])
    if node[0] == "in":
        return ("ok", stack[len(stack) - 1 - node[1]])
    return made(node[1], [worth[part] for part in node[2]])
