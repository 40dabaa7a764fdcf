"""Pieces and functions, and putting functions in the place of names."""

from playsalike.errors import BadPiece, TooMany
from playsalike.kinds import check_size, is_pair, is_word
from playsalike.plans import Plan
from playsalike.puttings import Body, measured, replaced
from playsalike.shapes import free_words, measures
from playsalike.sorts import MOST_NAMES, ascending, check_names, is_plain
from playsalike.terms import MOST_DEPTH, MOST_NODES, checked_sort


class Piece:
    """A piece of a program: a term of sort num or do over names with sorts."""

    def __init__(self, size, names, term):
        check_size(size)
        check_names(names)
        kind = checked_sort(size, names, term)
        if kind == "box":
            raise BadPiece("sort")
        self.size = size
        self.names = ascending(names)
        self.term = term
        self.kind = kind

    def __eq__(self, other):
        return (isinstance(other, Piece) and self.size == other.size and self.names == other.names
                and self.term == other.term and self.kind == other.kind)


class Function:
    """A function: a term over names and parameters."""

    def __init__(self, size, names, params, term):
        check_size(size)
        check_names(names)
        if not _is_params(names, params):
            raise BadPiece("params")
        given = checked_sort(size, {**names, **names_of_params(params)}, term)
        if given == "box" and len(params) > 0:
            raise BadPiece("sort")
        self.size = size
        self.names = ascending(names)
        self.params = params
        self.term = term
        self.kind = (tuple([sort for word, sort in params]), given)

    def __eq__(self, other):
        return (isinstance(other, Function) and self.size == other.size
                and self.names == other.names and self.params == other.params
                and self.term == other.term and self.kind == other.kind)


def _is_params(names, params):
    if not isinstance(params, tuple) or len(params) > 3:
        return False
    if not all([is_pair(param) and is_word(param[0]) and is_plain(param[1]) for param in params]):
        return False
    words = [word for word, sort in params]
    return len(set(words)) == len(words) and not any([word in names for word in words])


def names_of_params(params):
    """The parameters as names without arguments."""
    return {word: ((), sort) for word, sort in params}


def check_piece(piece):
    """Raises BadPiece(None) unless piece is a Piece."""
    if not isinstance(piece, Piece):
        raise BadPiece(None)


def check_whole(piece):
    """Raises BadPiece unless piece is a Piece without names."""
    check_piece(piece)
    if len(piece.names) > 0:
        raise BadPiece("whole")


def made_piece(size, names, term, kind):
    """The Piece with this right term, however many nodes it has and however deep it is."""
    piece = Piece(size, {}, ("skip",))
    piece.names = ascending(names)
    piece.term = term
    piece.kind = kind
    return piece


def with_term(piece, term):
    """The Piece with another right term of its sort, however great this is."""
    return made_piece(piece.size, piece.names, term, piece.kind)


def within_limits(piece):
    """The piece itself; TooMany if its term has too many nodes, or is too deep."""
    nodes, depth = measures(piece.term)
    check_measures(nodes, depth)
    return piece


def made_function(size, names, params, term, kind):
    """The Function with this right term, however many nodes it has and however deep it is."""
    function = Function(size, {}, (), ("skip",))
    function.names = ascending(names)
    function.params = params
    function.term = term
    function.kind = kind
    return function


def function_of(piece):
    """The Function without parameters that has the term of the piece."""
    check_piece(piece)
    return made_function(piece.size, piece.names, (), piece.term, ((), piece.kind))


def free_names(piece):
    """The ascending list of the names that stand free in the term of the piece."""
    check_piece(piece)
    return free_words(piece.term)


def put_in(piece, word, other):
    """The piece with the function other in the place of the name, within the limits of terms."""
    put_term, names = _put_together(piece, word, other)
    check_measures(put_term.nodes, put_term.depth)
    return made_piece(piece.size, names, put_term.term, piece.kind)


def put(piece, word, other):
    """As put_in, however many nodes come and however deep it gets."""
    put_term, names = _put_together(piece, word, other)
    return made_piece(piece.size, names, put_term.term, piece.kind)


def check_measures(nodes, depth):
    """Raises TooMany for a term of too many nodes, or one that is too deep."""
    if nodes > MOST_NODES:
        raise TooMany(MOST_NODES)
    if depth > MOST_DEPTH:
        raise TooMany(MOST_DEPTH)


def _put_together(piece, word, other):
    names = names_put(piece, word, other)
    return replaced(measured(piece.term), {word: body_of(other)}), names


def names_put(piece, word, other):
    """The names of the piece with other in the place of the name; BadPiece if it cannot be put."""
    check_piece(piece)
    if not isinstance(word, str) or word not in piece.names:
        raise BadPiece("word")
    if not isinstance(other, Function) or other.size != piece.size:
        raise BadPiece("other")
    if other.kind != piece.names[word]:
        raise BadPiece("other")
    names = {name: sort for name, sort in piece.names.items() if name != word}
    for name, sort in other.names.items():
        if name in names and names[name] != sort:
            raise BadPiece("names")
        names[name] = sort
    if len(names) > MOST_NAMES:
        raise BadPiece("names")
    return names


def body_of(function):
    """What stands for a name that this function is put in for."""
    return Body([word for word, sort in function.params], measured(function.term))


def plan_of_piece(piece):
    """The plan of the term of the piece."""
    return Plan(piece.names, piece.term)


def plan_of_function(function):
    """The plan of the term of the function, its parameters taken as names without arguments."""
    return Plan({**function.names, **names_of_params(function.params)}, function.term)
