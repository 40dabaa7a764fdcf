"""Places of pieces, and exchanging the terms that stand there."""

from playsalike.errors import BadPiece, BadPlace
from playsalike.kinds import is_number
from playsalike.pieces import check_piece, with_term, within_limits
from playsalike.shapes import (all_parts, names_within, part_along, part_paths, parts_of,
                               plain_sort, with_part_along)
from playsalike.sorts import ascending
from playsalike.terms import checked_sort


def places(piece):
    """The ascending list of all places of the piece."""
    check_piece(piece)
    return sorted([at for at, part in all_parts(piece.term)])


def part_at(piece, at):
    """The term at this place."""
    check_piece(piece)
    _numbers_along(piece, at)
    return part_along(piece.term, at)


def names_at(piece, at):
    """The ascending dict of what words mean at this place."""
    check_piece(piece)
    return ascending(_meanings_at(piece, _numbers_along(piece, at)))


def exchanged(piece, at, term):
    """The piece with this term at the place."""
    check_piece(piece)
    numbers = _numbers_along(piece, at)
    names = _meanings_at(piece, numbers)
    sort = checked_sort(piece.size, names, term)
    if sort != plain_sort(names, part_along(piece.term, at)):
        raise BadPiece("sort")
    return within_limits(with_term(piece, with_part_along(piece.term, at, term)))


def _numbers_along(piece, at):
    """The numbers, among all parts, of the parts through which the place leads."""
    if not isinstance(at, tuple) or not all([is_number(index) for index in at]):
        raise BadPlace("a place is a tuple of numbers")
    numbers = []
    term = piece.term
    start = 0
    while start < len(at):
        paths = part_paths(term)
        end = start + (2 if term[0] == "name" else 1)
        if at[start:end] not in paths:
            raise BadPlace("no part of the piece stands there")
        numbers.append(paths.index(at[start:end]))
        term = part_along(term, at[start:end])
        start = end
    return numbers


def _meanings_at(piece, numbers):
    names = piece.names
    term = piece.term
    for number in numbers:
        names = names_within(names, term, number)
        term = parts_of(term)[number]
    return names
