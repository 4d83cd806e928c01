"""Data are written as texts, and read from them."""

from flowreprise.errors import FormError

WORDS = {"z": None, "y": True, "n": False}
CLOSING = {"(": ")", "[": "]"}
MOST_DIGITS = 16


def encode(data):
    """Returns the written form of data."""
    parts = []
    # What is still to be written, the last thing first: signs, and data that are marked as such.
    waiting = [(data, True)]
    while waiting:
        thing, is_data = waiting.pop()
        if not is_data:
            parts.append(thing)
        elif isinstance(thing, (list, tuple)):
            first, last = ("[", "]") if isinstance(thing, list) else ("(", ")")
            parts.append(first)
            waiting.append((last, False))
            waiting.extend([(item, True) for item in reversed(thing)])
        else:
            parts.append(_plain_form(thing))
    return "".join(parts)


def _plain_form(thing):
    if thing is None:
        return "z"
    if isinstance(thing, bool):
        return "y" if thing else "n"
    if isinstance(thing, int):
        return f"i{thing};"
    return f"t{len(thing)}:{thing}"


def decode(text):
    """Returns the data with a written form."""
    data, behind = read_form(text, 0)
    if behind < len(text):
        raise FormError(behind)
    return data


def read_form(text, start):
    """Reads the form that begins at a place, and returns the data and the place behind it."""
    # The lists of items of what is open, the innermost one last, around a list for the whole.
    rows = [[]]
    signs = []
    at = start
    while not rows[0]:
        letter = text[at:at + 1]
        if letter in CLOSING:
            rows.append([])
            signs.append(letter)
            at += 1
        elif signs and letter == CLOSING[signs[-1]]:
            items = rows.pop()
            rows[-1].append(tuple(items) if signs.pop() == "(" else items)
            at += 1
        else:
            data, at = _read_plain(text, at)
            rows[-1].append(data)
    return rows[0][0], at


def _read_plain(text, at):
    letter = text[at:at + 1]
    if letter in WORDS:
        return WORDS[letter], at + 1
    if letter == "i":
        return _read_number(text, at + 1, ";", True)
    if letter == "t":
        size, behind = _read_number(text, at + 1, ":", False)
        if behind + size > len(text):
            raise FormError(at + 1)
        return text[behind:behind + size], behind + size
    raise FormError(at)


def _read_number(text, start, sign, is_signed):
    """Reads a number up to a sign, and returns it and the place behind the sign."""
    first = start + 1 if is_signed and text[start:start + 1] == "-" else start
    behind = first
    while "0" <= text[behind:behind + 1] <= "9" and behind - first < MOST_DIGITS:
        behind += 1
    digits = text[first:behind]
    if digits == "" or text[behind:behind + 1] != sign:
        raise FormError(start)
    if digits[0] == "0" and (first > start or digits != "0"):
        raise FormError(start)
    number = int(digits)
    return (-number if first > start else number), behind + 1
