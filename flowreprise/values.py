"""Types and values, what is known of types, and how values are written and read."""

from flowreprise.errors import WrittenError

SIMPLE_KINDS = ("int", "bool", "text", "nothing")
MOST_NUMBER = 1000000000000
MOST_LETTERS = 60
MOST_ITEMS = 20
MOST_DEPTH = 6

# The written forms of words, by their first letters.
WORDS = {"t": ("true", ("bool", True)), "f": ("false", ("bool", False)), "n": ("nothing", ("nothing",))}


def is_type(kind):
    """Returns whether a string, or a pair of "list" and such a thing, is a type."""
    inner = kind
    depth = 0
    while isinstance(inner, tuple):
        inner = inner[1]
        depth += 1
    return inner in SIMPLE_KINDS and depth <= MOST_DEPTH


def kind_of(value):
    """Returns the word of a value."""
    return value[0]


def is_letter(letter):
    """Returns whether a character may stand in a text."""
    return " " <= letter <= "~"


def list_depth(value):
    """Returns how deep lists are nested in what has the shape of a value."""
    if value[0] != "list":
        return 0
    return 1 + max([list_depth(item) for item in value[1]], default=0)


def _bounded_at(value, depth):
    if value[0] == "int":
        return -MOST_NUMBER <= value[1] <= MOST_NUMBER
    if value[0] == "text":
        return len(value[1]) <= MOST_LETTERS and all([is_letter(letter) for letter in value[1]])
    if value[0] == "list":
        if depth == MOST_DEPTH or len(value[1]) > MOST_ITEMS:
            return False
        return all([_bounded_at(item, depth + 1) for item in value[1]])
    return True


def is_bounded(value):
    """Returns whether numbers, texts and lists are within their bounds, whatever types items have."""
    return _bounded_at(value, 0)


def is_value(value):
    """Returns whether what has the shape of a value is a value."""
    return is_bounded(value) and known_type(value) is not False


def fits(value, kind):
    """Returns whether what has the shape of a value has a type."""
    if value[0] == "list":
        return isinstance(kind, tuple) and all([fits(item, kind[1]) for item in value[1]])
    return value[0] == kind


def known_type(value):
    """Returns what is known of the type of a value, or False if its items cannot be joined."""
    if value[0] != "list":
        return value[0]
    inner = None
    for item in value[1]:
        # What is False, as its own items cannot be joined, is joined with nothing.
        inner = joined(inner, known_type(item))
        if inner is False:
            return False
    return ("list", inner)


def joined(one, other):
    """Returns what is known by two knowledges of a type together, or False."""
    if one is None or one == other:
        return other
    if other is None:
        return one
    if isinstance(one, tuple) and isinstance(other, tuple):
        inner = joined(one[1], other[1])
        return False if inner is False else ("list", inner)
    return False


def show_type(kind):
    """Returns the written form of a type."""
    if isinstance(kind, tuple):
        return "[" + show_type(kind[1]) + "]"
    return kind


def show_value(value):
    """Returns the written form of a value."""
    if value[0] == "int":
        return str(value[1])
    if value[0] == "bool":
        return "true" if value[1] else "false"
    if value[0] == "text":
        return '"' + value[1].replace('"', '""') + '"'
    if value[0] == "list":
        return "[" + ", ".join([show_value(item) for item in value[1]]) + "]"
    return "nothing"


def read_value(text):
    """Returns the value of a written form."""
    return _read_whole(text, None)


def read_typed(text, kind):
    """Returns the value of the type of a written form."""
    if not is_type(kind):
        raise WrittenError(0)
    return _read_whole(text, kind)


def _read_whole(text, wanted):
    value, behind, _ = _read_at(text, 0, wanted, 0)
    if behind < len(text):
        raise WrittenError(behind)
    return value


def _read_at(text, at, wanted, depth):
    """Reads a value from a place on, inside of so many lists.

    Only forms of what is wanted, which is knowledge of a type or None, are
    read, so that the text so far is always the beginning of some form.
    Returns the value, the place behind it, and the knowledge with its type.
    """
    first = text[at:at + 1]
    if first == "[" and depth < MOST_DEPTH and (wanted is None or isinstance(wanted, tuple)):
        return _read_list(text, at, wanted, depth)
    if first == '"' and wanted in (None, "text"):
        letters, behind = _read_text(text, at)
        return ("text", letters), behind, "text"
    if (first == "-" or _is_digit(first)) and wanted in (None, "int"):
        number, behind = _read_number(text, at)
        return ("int", number), behind, "int"
    if first in WORDS and wanted in (None, WORDS[first][1][0]):
        word, value = WORDS[first]
        return value, _read_word(text, at, word), value[0]
    raise WrittenError(at)


def _read_list(text, at, wanted, depth):
    known = None if wanted is None else wanted[1]
    items = []
    here = at + 1
    if text[here:here + 1] == "]":
        return ("list", ()), here + 1, ("list", known)
    while True:
        # What one item tells of the type holds for all that follow.
        item, here, known = _read_at(text, here, known, depth + 1)
        items.append(item)
        sign = text[here:here + 1]
        if sign == "]":
            return ("list", tuple(items)), here + 1, ("list", known)
        if sign != "," or len(items) == MOST_ITEMS:
            raise WrittenError(here)
        if text[here + 1:here + 2] != " ":
            raise WrittenError(here + 1)
        here += 2


def _read_text(text, at):
    letters = []
    here = at + 1
    while True:
        letter = text[here:here + 1]
        if letter == '"':
            if text[here + 1:here + 2] != '"' or len(letters) == MOST_LETTERS:
                return "".join(letters), here + 1
            here += 1
        elif not is_letter(letter) or len(letters) == MOST_LETTERS:
            raise WrittenError(here)
        letters.append(letter)
        here += 1


def _read_number(text, at):
    is_negative = text[at] == "-"
    here = at + 1 if is_negative else at
    digit = text[here:here + 1]
    if not _is_digit(digit) or (is_negative and digit == "0"):
        raise WrittenError(here)
    number = 0
    # Behind a single zero, no digit follows.
    while _is_digit(digit) and number * 10 + int(digit) <= MOST_NUMBER:
        number = number * 10 + int(digit)
        here += 1
        digit = text[here:here + 1] if number > 0 else ""
    return (-number if is_negative else number), here


def _read_word(text, at, word):
    for k, letter in enumerate(word):
        if text[at + k:at + k + 1] != letter:
            raise WrittenError(at + k)
    return at + len(word)


def _is_digit(letter):
    return "0" <= letter <= "9"
