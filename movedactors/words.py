"""Words, names and numbers."""

LETTERS = "abcdefghijklmnopqrstuvwxyz"
DIGITS = "0123456789"
LONGEST = 12
KEPT_WORDS = ("closed", "ended", "gone", "self", "why")


def is_word(value):
    """Whether a value, which may be anything, is a word."""
    if not isinstance(value, str) or not 1 <= len(value) <= LONGEST:
        return False
    return value[0] in LETTERS and all([sign in LETTERS or sign in DIGITS for sign in value])


def is_name(value):
    """Whether a value, which may be anything, is a name."""
    return is_word(value) and value not in KEPT_WORDS


def is_number(value):
    """Whether a value, which may be anything, is an integer of at least 0."""
    return isinstance(value, int) and not isinstance(value, bool) and value >= 0
