"""Pieces with other words: own ones told by how many stand around them, names exchanged for names."""

from itertools import permutations

from playsalike.errors import BadWords
from playsalike.kinds import is_word
from playsalike.pieces import check_piece, made_piece, within_limits
from playsalike.shapes import given_word, parts_of, with_given_word, with_parts
from playsalike.words import fresh_words


def plain_piece(piece):
    """The piece with own words exchanged for the first ones that are no names, by how many stand around."""
    check_piece(piece)
    return _with_names(within_limits(piece), {word: word for word in piece.names})


def renamed_piece(piece, words):
    """The plain piece with these words, by its own names, as names."""
    check_piece(piece)
    if not _is_renaming(piece, words):
        raise BadWords("a dict from the words of all names to unlike words is wanted")
    return _with_names(within_limits(piece), words)


def _is_renaming(piece, words):
    if not isinstance(words, dict) or len(words) != len(piece.names):
        return False
    if not all([word in words and is_word(words[word]) for word in piece.names]):
        return False
    return len(set(list(words.values()))) == len(words)


def _with_names(piece, words):
    """The plain piece with these words as names."""
    names = {words[word]: sort for word, sort in piece.names.items()}
    own = fresh_words(names, _most_around(piece.term))
    return made_piece(piece.size, names, _renamed(piece.term, words, own, 0), piece.kind)


def _most_around(term):
    """How many terms that give words stand around one another in a term, at most."""
    deepest = 0
    for number, part in enumerate(parts_of(term)):
        own = 0 if given_word(term, number) is None else 1
        deepest = max(deepest, own + _most_around(part))
    return deepest


def _renamed(term, words, own, many):
    """The term with words exchanged as words tells; so many terms that give words stand around it."""
    parts = []
    for number, part in enumerate(parts_of(term)):
        word = given_word(term, number)
        if word is None:
            parts.append(_renamed(part, words, own, many))
        else:
            parts.append(_renamed(part, {**words, word: own[many]}, own, many + 1))
    if term[0] == "name":
        return ("name", words[term[1]], tuple(parts))
    whole = with_parts(term, parts)
    return with_given_word(whole, own[many]) if term[0] in ("new", "made") else whole


def piece_renaming(piece, other):
    """The least renaming that makes the plain piece of the other one of this piece, None without one."""
    check_piece(piece)
    check_piece(other)
    within_limits(piece)
    wanted = plain_piece(other)
    if len(piece.names) != len(other.names):
        return None
    for words in permutations(list(other.names)):
        renaming = dict(list(zip(piece.names, words)))
        if _with_names(piece, renaming) == wanted:
            return renaming
    return None
