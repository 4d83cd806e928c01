"""A reader goes over the words of a text and knows what is open around them."""

from flowreprise.errors import ReadError
from flowreprise.values import MOST_DEPTH, SIMPLE_KINDS
from flowreprise.words import NAME, words_of

MOST_INSIDE = 30
MOST_BODIES = 10


class Reader:
    """Goes over the words of a text, one by one."""

    def __init__(self, text):
        self.words = words_of(text)
        self.at = 0
        self.insides = 0
        self.bodies = 0

    def here(self):
        """Returns the kind of the present word."""
        return self.words[self.at][0]

    def where(self):
        """Returns the place of the present word."""
        return self.words[self.at][2]

    def take(self, kind):
        """Goes behind a word that must be of a kind, and returns its meaning."""
        if self.here() != kind:
            raise ReadError(self.where())
        meaning = self.words[self.at][1]
        self.at += 1
        return meaning

    def enter(self, kind):
        """Goes behind a word that opens an inside."""
        if self.insides == MOST_INSIDE:
            raise ReadError(self.where())
        self.take(kind)
        self.insides += 1

    def leave(self, kind):
        """Goes behind a word that closes an inside."""
        self.take(kind)
        self.insides -= 1

    def leave_front(self):
        """Ends the inside of a sign or word in front, which no word closes."""
        self.insides -= 1

    def enter_body(self):
        """Goes behind the sign that opens a body."""
        if self.bodies == MOST_BODIES:
            raise ReadError(self.where())
        self.take("{")
        self.bodies += 1

    def leave_body(self):
        """Goes behind the sign that closes a body."""
        self.take("}")
        self.bodies -= 1


def read_name(reader):
    """Reads a name and returns it."""
    return reader.take(NAME)


def read_kind(reader):
    """Reads a type and returns it."""
    return read_shallow_kind(reader, MOST_DEPTH)


def read_shallow_kind(reader, most):
    """Reads a type in which lists are nested at most so deep, and returns it."""
    depth = 0
    while reader.here() == "[":
        if depth == most:
            raise ReadError(reader.where())
        reader.take("[")
        depth += 1
    if reader.here() not in SIMPLE_KINDS:
        raise ReadError(reader.where())
    kind = reader.here()
    reader.take(kind)
    for _ in range(depth):
        reader.take("]")
        kind = ("list", kind)
    return kind


def check_room(reader, count, most):
    """Raises the error of the present word if there are so many things already before it."""
    if count == most:
        raise ReadError(reader.where())
