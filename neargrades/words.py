"""Words, numbers and rows: the forms that many parts ask for."""

from neargrades.errors import BadName, TwiceTold

LETTERS = "abcdefghijklmnopqrstuvwxyz"
SIGNS = "abcdefghijklmnopqrstuvwxyz0123456789"
LONGEST = 12


def is_number(value):
    """Whether any value is an integer, which True and False are not."""
    return isinstance(value, int) and not isinstance(value, bool)


def is_row(value):
    """Whether any value is a list or a tuple."""
    return isinstance(value, (list, tuple))


def is_run(value):
    """Whether any value is a string of 1 to 12 letters and digits."""
    if not isinstance(value, str) or not 1 <= len(value) <= LONGEST:
        return False
    return all([sign in SIGNS for sign in value])


def is_word(value):
    """Whether any value is a word: a run that begins with a letter."""
    return is_run(value) and value[0] in LETTERS


def check_unlike(names):
    """Raise TwiceTold for the first one of some strings that stood earlier."""
    seen = {}
    for name in names:
        if name in seen:
            raise TwiceTold(name)
        seen[name] = True


def check_words(names):
    """Raise BadName, then TwiceTold, unless names, any values, are unlike words."""
    for name in names:
        if not is_word(name):
            raise BadName(name)
    check_unlike(names)
