"""The optimiser: terms exchanged for shorter ones wherever the piece does the same in all programs."""

from playsalike.likeness import has_just
from playsalike.pieces import check_piece, with_term
from playsalike.plays import machine_of
from playsalike.scopes import parts_with_words
from playsalike.shapes import free_words, parts_of, plain_sort, with_part_along


def shortening(piece):
    """The first shortening of the piece, a pair of a place and a term; None if there is none."""
    check_piece(piece)
    return _first_shortening(piece, machine_of(piece))


def _first_shortening(piece, machine):
    """As shortening, for a piece whose machine is this one."""
    for part in parts_with_words(piece.names, piece.term):
        for term in _shorter_terms(piece.size, part):
            shorter = with_term(piece, with_part_along(piece.term, part.at, term))
            if has_just(shorter, machine):
                return (part.at, term)
    return None


def _shorter_terms(size, part):
    """The terms with fewer nodes that are tried at a place of a number or a deed, in sequence."""
    sort = plain_sort(part.names, part.term)
    if sort == "box" or len(parts_of(part.term)) == 0:
        return []
    terms = [("skip",)] if sort == "do" else [("number", number) for number in range(size)]
    terms.append(("never", sort))
    for inner in parts_with_words(part.names, part.term)[1:]:
        if plain_sort(inner.names, inner.term) == sort and inner.term not in terms:
            if not any([word in inner.own for word in free_words(inner.term)]):
                terms.append(inner.term)
    return terms


def optimised(piece):
    """The pair of the piece with all first shortenings done, one after the other, and their list."""
    check_piece(piece)
    machine = machine_of(piece)
    steps = []
    step = _first_shortening(piece, machine)
    while step is not None:
        steps.append(step)
        at, term = step
        piece = with_term(piece, with_part_along(piece.term, at, term))
        step = _first_shortening(piece, machine)
    return (piece, steps)
