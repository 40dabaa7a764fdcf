"""Counters made of boxes that keep digits 0 and 1, and choices by what they have counted, as terms."""

from playsalike.shapes import SKIP
from playsalike.words import fresh_words


def counter_words(barred, most):
    """The ascending words of the boxes of a counter up to most, none of them barred."""
    return sorted(fresh_words(barred, most.bit_length()))


def box_named(word):
    """The term of the box that has this word."""
    return ("name", word, ())


def kept_in(word):
    """The term that reads the box that has this word."""
    return ("get", box_named(word))


def counted_on(words):
    """The deed that counts one more: from the digit of the first word on, up to one that is 1 then."""
    deed = SKIP
    for word in reversed(words):
        turned = ("set", box_named(word), ("not", kept_in(word)))
        deed = turned if deed == SKIP else ("then", turned, ("if", kept_in(word), SKIP, deed))
    return deed


def counted_to(words, number, goal):
    """The deed that leads a counter at this number to the goal: the digits that differ are set."""
    deed = SKIP
    for at, word in enumerate(words):
        digit = goal >> at & 1
        if number >> at & 1 != digit:
            turned = ("set", box_named(word), ("number", digit))
            deed = turned if deed == SKIP else ("then", turned, deed)
    return deed


def chosen(words, keys, terms):
    """The term that is, at each counted number that is a key of keys, the one of terms that it tells.

    What it is at other numbers does not matter: so it is as small as this lets it be.
    """
    return _term_of(_tree(list(words), keys), terms)


def _tree(words, keys):
    """A number of terms, or a triple: a word, the tree if its digit is 1, and the one if it is 0."""
    told = sorted({key: True for key in keys.values()})
    if len(told) == 1:
        return told[0]
    others = words[:-1]
    half = 1 << len(others)
    low = {number: key for number, key in keys.items() if number < half}
    high = {number - half: key for number, key in keys.items() if number >= half}
    if len(low) == 0:
        return _tree(others, high)
    below = _tree(others, low)
    above = below if len(high) == 0 else _tree(others, high)
    return below if above == below else (words[-1], above, below)


def _term_of(tree, terms):
    if not isinstance(tree, tuple):
        return terms[tree]
    word, above, below = tree
    return ("if", kept_in(word), _term_of(above, terms), _term_of(below, terms))
