"""What is given for names of a piece: functions, and numbers with which boxes begin."""

from playsalike.errors import BadGivings
from playsalike.kinds import is_within
from playsalike.pieces import Function
from playsalike.sorts import BOX


def check_givings(piece, givings):
    """Raises BadGivings unless these can be given for names of the piece."""
    if not isinstance(givings, dict):
        raise BadGivings("givings are a dict")
    if not all([_is_giving(piece, word, given) for word, given in givings.items()]):
        raise BadGivings("what is given is of another sort than its name")
    sorts = dict(piece.names)
    for function in functions_given(givings).values():
        for word, sort in function.names.items():
            if word in givings or sorts.setdefault(word, sort) != sort:
                raise BadGivings("a name of a function is given, or has unlike sorts")


def _is_giving(piece, word, given):
    if not isinstance(word, str) or word not in piece.names:
        return False
    if isinstance(given, Function):
        return given.size == piece.size and given.kind == piece.names[word]
    return piece.names[word] == BOX and is_within(given, 0, piece.size - 1)


def functions_given(givings):
    """The functions among what is given, by their words."""
    return {word: given for word, given in givings.items() if isinstance(given, Function)}


def boxes_given(givings):
    """The numbers among what is given, by the words of their boxes."""
    return {word: given for word, given in givings.items() if not isinstance(given, Function)}


def check_all_given(piece, givings):
    """Raises BadGivings unless all names of the piece are given, by functions without names."""
    check_givings(piece, givings)
    if len(givings) < len(piece.names):
        raise BadGivings("not all names are given")
    if any([len(function.names) > 0 for function in functions_given(givings).values()]):
        raise BadGivings("a function has names")
