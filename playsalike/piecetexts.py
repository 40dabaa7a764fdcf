"""Texts of pieces and functions, there and back."""

from playsalike.errors import BadPiece
from playsalike.pieces import Function, Piece, check_measures, check_piece, within_limits
from playsalike.shapes import measures
from playsalike.termtexts import WHOLE, joined_tokens, term_tokens
from playsalike.textheads import function_start, piece_start
from playsalike.textreader import next_signs, read_whole


def piece_text(piece):
    """The text of the piece with as few brackets as can be."""
    check_piece(piece)
    within_limits(piece)
    tokens = _head_tokens(piece) + _term_part(piece.term)
    return joined_tokens(tokens)


def _head_tokens(thing):
    """The tokens of the size and the names of a piece or a function."""
    tokens = ["size", str(thing.size)]
    for word, sort in thing.names.items():
        taken, given = sort
        tokens.extend(["|", "name", word] + list(taken))
        tokens.extend(["to", given] if len(taken) > 0 else [given])
    return tokens


def _term_part(term):
    return ["|", "does"] + term_tokens(term, WHOLE)


def function_text(function):
    """The text of the function with as few brackets as can be."""
    if not isinstance(function, Function):
        raise BadPiece("function")
    nodes, depth = measures(function.term)
    check_measures(nodes, depth)
    tokens = _head_tokens(function) + ["|", "takes"]
    for word, sort in function.params:
        tokens.extend([word, sort])
    return joined_tokens(tokens + _term_part(function.term))


def piece_of_text(text):
    """The piece that a text tells."""
    standing = read_whole(piece_start(), text)
    header = standing.header
    return Piece(header.size, header.names, _right_term(standing))


def function_of_text(text):
    """The function that a text tells."""
    standing = read_whole(function_start(), text)
    header = standing.header
    return Function(header.size, header.names, header.params, _right_term(standing))


def _right_term(standing):
    """The term of a whole text; TooMany if it is too great."""
    term = standing.whole()
    nodes, depth = measures(term)
    check_measures(nodes, depth)
    return term


def next_in_piece(text):
    """The pair of whether a beginning is a text of a piece, and of the signs that can come next."""
    return next_signs(piece_start(), text)


def next_in_function(text):
    """The pair of whether a beginning is a text of a function, and of the signs that can come next."""
    return next_signs(function_start(), text)
