"""The codes with which runs fail."""

NO_QUOTIENT = 1
TOO_GREAT = 2
NO_ITEM = 3
TOO_MANY = 4
CALLED_OFF = 5
TOO_LATE = 6
# What needs a value of another type fails as what makes no value.
OTHER_TYPE = 2
LEAST_CODE = 100
GREATEST_CODE = 999

# A call inside of so many calls fails with TOO_MANY.
MOST_CALLS = 31


def is_told_code(code):
    """Returns whether a program or the outside may fail with a code of their own."""
    return LEAST_CODE <= code <= GREATEST_CODE


def raised_code(n):
    """Returns the code with which a program fails that tells an integer."""
    return n if is_told_code(n) else TOO_GREAT
