"""A journal is a text of records, of which the first characters are safe."""

from flowreprise.errors import FormError
from flowreprise.forms import decode, encode, read_form

FIRST_CHECK = 7
FACTOR = 33
MODULUS = 4294967291


def check_of(text):
    """Returns the check number of a text."""
    check = FIRST_CHECK
    for letter in text:
        check = (check * FACTOR + ord(letter)) % MODULUS
    return check


def record_of(data):
    """Returns the record of data."""
    body = encode(data)
    return encode((len(body),)) + body + encode((check_of(body),))


def read_records(text):
    """Returns the list of the data of the records at the beginning of a text, and the number of their characters."""
    found = []
    at = 0
    while at < len(text):
        try:
            data, behind = _read_record(text, at)
        except FormError:
            return found, at
        found.append(data)
        at = behind
    return found, at


def _read_record(text, start):
    """Reads the record at a place, and returns its data and the place behind it."""
    size, first = _read_alone(text, start)
    if size < 0:
        raise FormError(start)
    body = text[first:first + size]
    check, behind = _read_alone(text, first + size)
    if check != check_of(body):
        raise FormError(first + size)
    return decode(body), behind


def _read_alone(text, start):
    """Reads the form of a tuple of an integer alone, and returns this and the place behind it."""
    data, behind = read_form(text, start)
    if not isinstance(data, tuple) or len(data) != 1 or not isinstance(data[0], int) or isinstance(data[0], bool):
        raise FormError(start)
    return data[0], behind


class Journal:
    """An empty journal."""

    def __init__(self):
        self.text = ""
        self.safe = 0

    def append(self, data):
        """Writes a record."""
        self.text = self.text + record_of(data)

    def sync(self):
        """Makes all safe."""
        self.safe = len(self.text)

    def fall(self, kept):
        """Lets the power fail, when so many characters that are not safe are kept."""
        self.text = self.text[:self.safe + kept]

    def recover(self):
        """Recovers and returns the list of the data."""
        found, behind = read_records(self.text)
        self.text = self.text[:behind]
        self.safe = behind
        return found
