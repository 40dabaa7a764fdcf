"""Pieces of one kind sorted out: which ones are the same, and which ones are less."""

from playsalike.alike import first_more, is_kind
from playsalike.errors import BadPieces
from playsalike.kinds import is_list
from playsalike.pieces import Piece
from playsalike.plays import machine_of

MOST_PIECES = 12


def classes_of(pieces):
    """The tuple of the tuples of the places of pieces that are the same."""
    machines = _machines_of(pieces)
    found = []
    for at, machine in enumerate(machines):
        alike = [lot for lot in found if machines[lot[0]] == machine]
        if len(alike) > 0:
            alike[0].append(at)
        else:
            found.append([at])
    return tuple([tuple(lot) for lot in found])


def above_of(pieces):
    """The ascending list of the pairs of unlike places of which the first one's piece is less."""
    return _pairs_above(_machines_of(pieces))


def least_of_all(pieces):
    """The ascending tuple of the places of those of which no other one is less, but the same."""
    machines = _machines_of(pieces)
    above = [pair[1] for pair in _pairs_above(machines) if machines[pair[0]] != machines[pair[1]]]
    return tuple([at for at in range(len(machines)) if at not in above])


def _machines_of(pieces):
    if not is_list(pieces) or not 1 <= len(pieces) <= MOST_PIECES:
        raise BadPieces("a list of 1 to 12 pieces is wanted")
    if not all([isinstance(piece, Piece) for piece in pieces]):
        raise BadPieces("all are to be pieces")
    if not all([is_kind(pieces[0], piece) for piece in pieces]):
        raise BadPieces("all are to be of one kind")
    return [machine_of(piece) for piece in pieces]


def _pairs_above(machines):
    return [(at, other) for at in range(len(machines)) for other in range(len(machines))
            if at != other and first_more(machines[at], machines[other]) is None]
