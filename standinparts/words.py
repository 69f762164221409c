"""Words, dates and integers."""

LETTERS = "abcdefghijklmnopqrstuvwxyz"
LONGEST_WORD = 8
LAST_DATE = 9999


def is_integer(value, lowest, highest):
    """Whether any value is an integer from lowest to highest."""
    # True and False are of the kind int, too, but they are no integers here.
    return isinstance(value, int) and not isinstance(value, bool) and lowest <= value <= highest


def is_word(value):
    """Whether any value is a word: one to eight letters from a to z."""
    if not isinstance(value, str) or not 1 <= len(value) <= LONGEST_WORD:
        return False
    return all([letter in LETTERS for letter in value])


def is_date(value):
    """Whether any value is a date: an integer from 0 to 9999."""
    return is_integer(value, 0, LAST_DATE)
