"""Sorts of numbers, deeds, boxes and functions of them, and names that have them."""

from playsalike.errors import BadSort
from playsalike.kinds import is_pair, is_word

PLAIN_SORTS = ("num", "do", "box")
NUMBER = ((), "num")
BOX = ((), "box")
MOST_NAMES = 4


def is_plain(thing):
    """Whether thing is a plain sort."""
    return isinstance(thing, str) and thing in PLAIN_SORTS


def is_sort(thing):
    """Whether thing is a sort: a pair of plain sorts taken and the plain sort given."""
    if not is_pair(thing):
        return False
    taken, given = thing
    if not isinstance(taken, tuple) or len(taken) > 3:
        return False
    if not is_plain(given) or not all([is_plain(sort) for sort in taken]):
        return False
    return given != "box" or len(taken) == 0


def is_names(thing):
    """Whether thing is a dict from at most four words to sorts."""
    if not isinstance(thing, dict) or len(thing) > MOST_NAMES:
        return False
    return all([is_word(word) and is_sort(sort) for word, sort in thing.items()])


def check_names(names):
    """Raises BadSort unless names are names of a piece."""
    if not is_names(names):
        raise BadSort("names are a dict from at most four words to sorts")


def ascending(table):
    """A new dict with the keys of table in their order."""
    return {key: table[key] for key in sorted(table)}
