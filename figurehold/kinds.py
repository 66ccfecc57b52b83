"""What an integer, a sequence, a name, a variable, a row of figures and the text of an integer is."""

LETTERS = "abcdefghijklmnopqrstuvwxyz"
CAPITALS = "ABCDEFGHIJKLMNOPQRSTUVWXYZ"
FIGURES = "0123456789"
LONGEST_NAME = 4


def is_integer(thing):
    """Whether it is an integer (True and False are none)."""
    return isinstance(thing, int) and not isinstance(thing, bool)


def is_sequence(thing):
    """Whether it is a list or a tuple."""
    return isinstance(thing, (list, tuple))


def is_name(thing):
    """Whether it is a word of 1 to 4 small letters."""
    if not isinstance(thing, str) or not 1 <= len(thing) <= LONGEST_NAME:
        return False
    return all([sign in LETTERS for sign in thing])


def is_variable(thing):
    """Whether it is a string of a letter, _ and a name."""
    if not isinstance(thing, str) or len(thing) < 3:
        return False
    return (thing[0] in LETTERS or thing[0] in CAPITALS) and thing[1] == "_" and is_name(thing[2:])


def is_figures(text, most):
    """Whether a string is a number from 1 on of at most so many figures, with no noughts ahead."""
    if not 1 <= len(text) <= most or text[0] == "0":
        return False
    return all([sign in FIGURES for sign in text])


def read_integer(text, most):
    """The integer with this text of at most so many figures, or None."""
    if text == "0":
        return 0
    size = text[1:] if text.startswith("-") else text
    if not is_figures(size, most):
        return None
    return int(text)
