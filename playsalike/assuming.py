"""Claims assumed, claims dropped, and which claims can be the ones that break."""

from playsalike.claims import claims_in, least_break
from playsalike.errors import BadPlaces
from playsalike.kinds import is_list, is_number
from playsalike.pieces import check_piece, with_term, within_limits
from playsalike.shapes import part_along, with_part_along


def assumed(piece, places):
    """The piece that goes on for ever where one of these claims would break."""
    return _without_claims(piece, places, ("never", "do"))


def claims_dropped(piece, places):
    """The piece that works out what these claims ask, and does nothing with it."""
    return _without_claims(piece, places, ("skip",))


def _without_claims(piece, places, otherwise):
    """The piece with these claims exchanged for a choice between skip and something else."""
    check_piece(piece)
    _check_places(piece, places)
    term = piece.term
    for at in places:
        test = part_along(term, at)[1]
        term = with_part_along(term, at, ("if", test, ("skip",), otherwise))
    return within_limits(with_term(piece, term))


def _check_places(piece, places):
    if not is_list(places) or not all([_is_place(place) for place in places]):
        raise BadPlaces("a list of places is wanted")
    claims = claims_in(piece)
    if not all([place in claims for place in places]) or len(set(places)) < len(places):
        raise BadPlaces("unlike places of claims are wanted")


def _is_place(thing):
    return isinstance(thing, tuple) and all([is_number(index) for index in thing])


def first_break(piece, place):
    """The least broken play whose last claim is the one at this place, None if there is none."""
    check_piece(piece)
    _check_places(piece, [place])
    return least_break(assumed(piece, [at for at in claims_in(piece) if at != place]))


def breaking_places(piece):
    """The ascending list of the places of the claims that can be the one that breaks."""
    return [at for at in claims_in(piece) if first_break(piece, at) is not None]
