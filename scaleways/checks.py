"""Questions that may be asked about any value."""

# The greatest value of a scale, 10 ** 12, has so many digits.
MOST_DIGITS = 13

# A name has no more letters.
MOST_LETTERS = 4


def is_number(value):
    """Whether this is an integer greater than or equal to 0."""
    return isinstance(value, int) and not isinstance(value, bool) and value >= 0


def is_value(value, top):
    """Whether this is a value of the scale from 0 to top."""
    return is_number(value) and value <= top


def is_sequence(value):
    """Whether this is a list or a tuple."""
    return isinstance(value, (list, tuple))


def is_numeral(word):
    """Whether a word is a number in decimal digits without leading zeros."""
    # Outside of ASCII there are other characters that count as digits.
    if not word.isascii() or not word.isdigit():
        return False
    return len(word) <= MOST_DIGITS and (word == "0" or not word.startswith("0"))


def is_name(value):
    """Whether this is a string of 1 to 4 lower-case letters a to z."""
    if not isinstance(value, str) or len(value) > MOST_LETTERS:
        return False
    # Outside of ASCII there are other lower-case letters.
    return value.isascii() and value.isalpha() and value.islower()
