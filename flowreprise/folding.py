"""Pieces are folded for known values of slots: what these decide is worked out once."""

from flowreprise.code import made
from flowreprise.lifting import node_fails
from flowreprise.soundness import is_list_kind, made_by_sign, made_by_word
from flowreprise.values import fits, joined, known_type

GONE = ("gone", None)


def fold(piece, known):
    """Returns the pair of a folded piece and its paper, for values of slots, or None."""
    _, ends, before, takes, nodes, wants, pushes, writes = piece
    facts = _facts(before, nodes, known)
    worth = _worked_out(nodes, facts)
    if not all([worth[node] in (None, ("bool", truth)) for node, truth in wants]):
        return None
    needed = _needed(piece, worth)
    folding = Folding()
    for at, node in enumerate(nodes):
        folding.read(node, worth[at], at in needed)
    # Wanted nodes whose values are known have the truths that are wanted.
    left = [(folding.told(node), truth) for node, truth in wants if worth[node] is None]
    top = [folding.told(node) for node in pushes]
    after = [(slot, folding.told(node)) for slot, node in writes]
    return ("piece", ends, facts, takes, folding.nodes, left, top, after), folding.paper


class Folding:
    """The nodes of a folded piece, and the paper, while they are made."""

    def __init__(self):
        self.nodes = []
        self.indexes = {}
        self.paper = []

    def add(self, node):
        """Returns the index of a node, which is put behind the others if it is not there yet."""
        # Values may be nested too deep for keys, but texts tell them apart, too.
        key = repr(node)
        if key not in self.indexes:
            self.indexes[key] = len(self.nodes)
            self.nodes.append(node)
        return self.indexes[key]

    def told(self, at):
        """Returns the index of the node that the paper tells of one of the first piece."""
        word, what = self.paper[at]
        return what if word == "node" else self.add(("push", what))

    def read(self, node, value, is_needed):
        """Puts the row of the next node on the paper, for its value or None."""
        if value is not None:
            self.paper.append(("value", value))
        elif is_needed:
            self.paper.append(("node", self.add(self._folded(node))))
        else:
            self.paper.append(GONE)

    def _folded(self, node):
        if node[0] != "make":
            return node
        return ("make", node[1], [self.told(part) for part in node[2]])


def _facts(before, nodes, known):
    """Returns the pairs of a slot and a value that a folded piece knows."""
    facts = list(before)
    told = {slot: True for slot, _ in before}
    for slot in sorted(known):
        if slot not in told and ("slot", slot) in nodes:
            facts.append((slot, known[slot]))
    return facts


def _worked_out(nodes, facts):
    """Returns the list of the values of nodes, None for those that are not known."""
    slots = dict(facts)
    worth = []
    for node in nodes:
        if node[0] == "push":
            worth.append(node[1])
        elif node[0] == "slot":
            worth.append(slots.get(node[1]))
        elif node[0] == "make":
            worth.append(_result(node[1], [worth[part] for part in node[2]]))
        else:
            worth.append(None)
    return worth


def _result(instruction, values):
    """Returns the value that an instruction makes of values, or None if it does not or one is not known."""
    if None in values or not _has_types(instruction, values):
        return None
    word, told = made(instruction, values)
    return told if word == "ok" else None


def _has_types(instruction, values):
    """Returns whether values are of the types that an instruction needs."""
    if instruction[0] == "list":
        return all([fits(value, instruction[1]) for value in values])
    kinds = [known_type(value) for value in values]
    if instruction[0] == "op":
        kind = joined(kinds[0], kinds[1])
        return kind is not False and made_by_sign(instruction[1], kind, kind) is not None
    if instruction[0] == "item":
        # What is known of an item may be nothing.
        return is_list_kind(kinds[0]) and kinds[1] == "int"
    return made_by_word(instruction[0], kinds) is not None


def _needed(piece, worth):
    """Returns a dict with each node that may fail, or that results, wants or such nodes need."""
    _, _, _, _, nodes, wants, pushes, writes = piece
    rows = pushes + [node for node, _ in wants] + [node for _, node in writes]
    needed = {node: True for node in rows}
    for at in reversed(range(len(nodes))):
        is_open = worth[at] is None and nodes[at][0] == "make"
        if is_open and (at in needed or node_fails(nodes[at])):
            needed[at] = True
            needed.update({part: True for part in nodes[at][2]})
    return needed


def folded_right(piece, folded, paper):
    """Returns whether the paper of a folded piece is right."""
    if len(paper) != len(piece[4]) or (folded[1], folded[3]) != (piece[1], piece[3]):
        return False
    if not _knows(piece[2], folded[2]) or not _is_ordered(folded):
        return False
    for at in range(len(paper)):
        if not _row_right(piece[4], folded, paper, at):
            return False
    if not _results_right(piece, folded, paper) or not _wants_right(piece, folded, paper):
        return False
    return _failures_right(folded[4], paper)


def _knows(before, facts):
    """Returns whether facts are those from before and others, with each slot once."""
    told = {slot: True for slot, _ in facts}
    return len(told) == len(facts) and all([fact in facts for fact in before])


def _is_ordered(folded):
    """Returns whether nodes have earlier parts alone, and take what is taken."""
    takes, nodes = folded[3], folded[4]
    for at, node in enumerate(nodes):
        if node[0] == "in" and not 0 <= node[1] < takes:
            return False
        if node[0] == "make" and not all([0 <= part < at for part in node[2]]):
            return False
    return True


def _row_right(nodes, folded, paper, at):
    """Returns whether a row of a paper is right, if those before it are."""
    word, told = paper[at]
    if word == "value":
        return _value_right(nodes[at], dict(folded[2]), paper, told)
    if word == "node":
        return told in range(len(folded[4])) and _node_right(nodes[at], folded[4], paper, folded[4][told])
    return (word, told) == GONE and not node_fails(nodes[at])


def _value_right(node, facts, paper, value):
    if node[0] == "push":
        return node[1] == value
    if node[0] == "slot":
        return node[1] in facts and facts[node[1]] == value
    if node[0] == "in":
        return False
    rows = [paper[part] for part in node[2]]
    if not all([word == "value" for word, _ in rows]):
        return False
    result = _result(node[1], [told for _, told in rows])
    return result is not None and result == value


def _node_right(node, nodes, paper, other):
    if node[0] != "make":
        return node == other
    if other[0] != "make" or other[1] != node[1] or len(other[2]) != len(node[2]):
        return False
    return all([_is_told(nodes, paper[part], place) for part, place in zip(node[2], other[2])])


def _is_told(nodes, row, at):
    """Returns whether what has an index in a folded piece is what a row tells."""
    word, told = row
    if word == "value":
        return at in range(len(nodes)) and nodes[at] == ("push", told)
    return word == "node" and told == at


def _results_right(piece, folded, paper):
    """Returns whether pushes and writes of a folded piece are what the paper tells."""
    _, _, _, _, nodes, _, pushes, writes = folded
    rows = [paper[node] for node in piece[6]]
    if len(pushes) != len(rows) or [slot for slot, _ in writes] != [slot for slot, _ in piece[7]]:
        return False
    rows.extend([paper[node] for _, node in piece[7]])
    places = pushes + [node for _, node in writes]
    return all([_is_told(nodes, row, at) for row, at in zip(rows, places)])


def _wants_right(piece, folded, paper):
    """Returns whether wants are those of the first piece, but for those whose truths are known."""
    left = []
    for node, truth in piece[5]:
        word, told = paper[node]
        if word == "node":
            left.append((told, truth))
        elif (word, told) != ("value", ("bool", truth)):
            return False
    return left == folded[5]


def _failures_right(nodes, paper):
    """Returns whether each node that may fail stands in a row."""
    told = [at for word, at in paper if word == "node"]
    return all([at in told for at, node in enumerate(nodes) if node_fails(node)])
