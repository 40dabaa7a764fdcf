"""Whether pieces are safe with functions put in for a name."""

from playsalike.claims import is_safe
from playsalike.errors import BadPiece
from playsalike.pieces import Function, check_piece, put_in


def safe_with(piece, word, function):
    """Whether the piece with the function in the place of the name is safe."""
    return is_safe(put_in(piece, word, function))


def always_breaks(piece, word):
    """Whether no function makes the piece safe: it is unsafe already with the one that never ends."""
    check_called(piece, word)
    return not safe_with(piece, word, never_function(piece.size, piece.names[word]))


def check_called(piece, word):
    """Raises BadPiece unless the word is a name of the piece that is no box."""
    check_piece(piece)
    if not isinstance(word, str) or word not in piece.names or piece.names[word][1] == "box":
        raise BadPiece("word")


def plain_params(sort):
    """Parameters a, b, c of functions of this sort."""
    return tuple(list(zip("abc", sort[0])))


def never_function(size, sort):
    """The function of this sort that never ends."""
    return Function(size, {}, plain_params(sort), ("never", sort[1]))
