"""All small functions for a name, told apart by whether the piece is safe with them."""

from playsalike.errors import BadNumber
from playsalike.kinds import is_within
from playsalike.pieces import Function, names_of_params
from playsalike.putclaims import check_called, plain_params, safe_with
from playsalike.smallpieces import all_terms

MOST_NODES = 4


def safe_functions(piece, word, nodes):
    """The pair of lists of the functions with which the piece is safe, and of the others."""
    check_called(piece, word)
    if not is_within(nodes, 1, MOST_NODES):
        raise BadNumber("nodes")
    sort = piece.names[word]
    params = plain_params(sort)
    safe = []
    others = []
    for term in all_terms(piece.size, names_of_params(params), sort[1], nodes):
        function = Function(piece.size, {}, params, term)
        if safe_with(piece, word, function):
            safe.append(function)
        else:
            others.append(function)
    return (safe, others)
