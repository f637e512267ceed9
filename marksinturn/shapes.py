"""The plain kinds of things that are passed: lists, integers, numbers, names."""

LETTERS = "abcdefghijklmnopqrstuvwxyz"
FIGURES = "0123456789"
LONGEST_NAME = 8


def is_list(thing):
    """Whether an object is a list or a tuple, which mean the same."""
    return isinstance(thing, (list, tuple))


def is_tuple_of(thing, length):
    """Whether an object is a list or a tuple of so many things."""
    return is_list(thing) and len(thing) == length


def is_integer(thing):
    """Whether an object is an int that is no bool."""
    return isinstance(thing, int) and not isinstance(thing, bool)


def is_count(thing):
    """Whether an object is an integer from 0 on."""
    return is_integer(thing) and thing >= 0


def is_below(thing, many):
    """Whether an object is an integer from 0 on below a number."""
    return is_count(thing) and thing < many


def is_name(thing):
    """Whether an object is a name: a letter, then up to seven letters or figures."""
    if not isinstance(thing, str) or not 1 <= len(thing) <= LONGEST_NAME:
        return False
    if thing[0] not in LETTERS:
        return False
    return all([sign in LETTERS or sign in FIGURES for sign in thing])
