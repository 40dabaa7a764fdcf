"""Judging any value by its kind: numbers, words, lists, pairs; and sizes."""

from playsalike.errors import BadNumber

SIGNS = "abcdefghijklmnopqrstuvwxyz"


def is_number(thing):
    """Whether thing is an int that is not a bool."""
    return isinstance(thing, int) and not isinstance(thing, bool)


def is_within(thing, least, most):
    """Whether thing is a number from least to most."""
    return is_number(thing) and least <= thing <= most


def is_word(thing):
    """Whether thing is a string of 1 to 8 letters from a to z."""
    if not isinstance(thing, str) or not 1 <= len(thing) <= 8:
        return False
    return all([sign in SIGNS for sign in thing])


def is_list(thing):
    """Whether thing may be given where a list is spoken of."""
    return isinstance(thing, (list, tuple))


def is_pair(thing):
    """Whether thing is a tuple of two things."""
    return isinstance(thing, tuple) and len(thing) == 2


def is_ascending(things):
    """Whether numbers or words are ascending, no two alike."""
    return all([things[at] < things[at + 1] for at in range(len(things) - 1)])


def check_size(size):
    """Raises BadNumber unless size is the size of a piece."""
    if not is_within(size, 2, 4):
        raise BadNumber("size")
