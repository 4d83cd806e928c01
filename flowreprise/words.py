"""The words of the text of a program."""

from flowreprise.values import MOST_LETTERS, MOST_NUMBER, is_letter

RESERVED = (
    "act", "and", "await", "bool", "catch", "do", "else", "fail", "false", "flow", "fn", "if", "int", "let",
    "not", "nothing", "now", "or", "random", "return", "set", "signal", "size", "text", "timer", "true", "try",
    "while")
LONG_SIGNS = ("!=", "<=")
SHORT_SIGNS = "(){}[],;:+-*/&=<"
MOST_NAME = 8
MOST_DIGITS = 13

# A reserved word or a sign is its own kind; these are the kinds of the other words.
NAME = "NAME"
NUMBER = "NUMBER"
STRING = "STRING"
FAULT = "FAULT"
END = "END"


def words_of(text):
    """Returns the words of a text: triples of the kind, the meaning and the place.

    The last one is the end of the text, or the first word that is a fault,
    as nothing is read behind it.
    """
    words = []
    at = _first_place(text, 0)
    while at < len(text):
        kind, meaning, behind = _word_at(text, at)
        words.append((kind, meaning, at))
        if kind == FAULT:
            return words
        at = _first_place(text, behind)
    words.append((END, None, len(text)))
    return words


def _first_place(text, at):
    """Returns the first place from one on that is neither a space nor in a remark."""
    here = at
    while text[here:here + 1] in (" ", "\n", "#"):
        if text[here] == "#":
            line_end = text.find("\n", here)
            here = len(text) if line_end < 0 else line_end
        else:
            here += 1
    return here


def _word_at(text, at):
    """Returns the kind and the meaning of the word at a place, and the place behind it."""
    letter = text[at]
    if _is_small(letter):
        return _letters_at(text, at)
    if _is_digit(letter):
        return _digits_at(text, at)
    if letter == '"':
        return _string_at(text, at)
    if text[at:at + 2] in LONG_SIGNS:
        return text[at:at + 2], None, at + 2
    if letter in SHORT_SIGNS:
        return letter, None, at + 1
    return FAULT, None, at


def _letters_at(text, at):
    behind = at
    while _is_small(text[behind:behind + 1]):
        behind += 1
    word = text[at:behind]
    if word in RESERVED:
        return word, None, behind
    if len(word) <= MOST_NAME:
        return NAME, word, behind
    return FAULT, None, at


def _digits_at(text, at):
    behind = at
    while _is_digit(text[behind:behind + 1]):
        behind += 1
    digits = text[at:behind]
    # The number of digits is looked at first, as Python reads no number of thousands of them.
    if len(digits) > MOST_DIGITS or (digits[0] == "0" and digits != "0"):
        return FAULT, None, at
    if int(digits) > MOST_NUMBER:
        return FAULT, None, at
    return NUMBER, int(digits), behind


def _string_at(text, at):
    letters = []
    here = at + 1
    while is_letter(text[here:here + 1]):
        if text[here] == '"':
            if text[here + 1:here + 2] != '"':
                return _whole_string(letters, at, here + 1)
            here += 1
        letters.append(text[here])
        here += 1
    return FAULT, None, at


def _whole_string(letters, at, behind):
    if len(letters) > MOST_LETTERS:
        return FAULT, None, at
    return STRING, "".join(letters), behind


def _is_small(letter):
    return "a" <= letter <= "z"


def _is_digit(letter):
    return "0" <= letter <= "9"
