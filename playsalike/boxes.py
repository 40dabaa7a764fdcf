"""New boxes that tell nothing: other numbers to begin with, and boxes that need not be set."""

from playsalike.errors import BadPlace
from playsalike.likeness import has_just
from playsalike.pieces import check_piece, plan_of_piece, with_term
from playsalike.places import part_at
from playsalike.plans import place_of
from playsalike.plays import machine_of
from playsalike.shapes import SKIP, part_along, with_part_along


def begins(piece, at):
    """The ascending list of the numbers with which the box at this place may begin as well."""
    word, number, body = _new_at(piece, at)[1:]
    machine = machine_of(piece)
    found = []
    for other in range(piece.size):
        begun = with_part_along(piece.term, at, ("new", word, other, body))
        if other == number or has_just(with_term(piece, begun), machine):
            found.append(other)
    return found


def _new_at(piece, at):
    """The "new" term at this place; BadPlace if none stands there."""
    check_piece(piece)
    term = part_at(piece, at)
    if term[0] != "new":
        raise BadPlace("no new box is made there")
    return term


def is_idle(piece, at):
    """Whether the piece does the same if nothing is set in the box that is made at this place."""
    _new_at(piece, at)
    term = piece.term
    # What is set within a set is exchanged ahead of it, so that places stay what they are.
    for place in sorted(_sets_of(piece, at), reverse=True):
        term = with_part_along(term, place, ("if", part_along(term, place)[2], SKIP, SKIP))
    return has_just(with_term(piece, term), machine_of(piece))


def _sets_of(piece, at):
    """The places of the terms that set the box that is made at this place."""
    plan = plan_of_piece(piece)
    found = []
    for giver, users in plan.users.items():
        if place_of(plan, giver) == at:
            parents = [plan.parents[user] for user in users if plan.which[user] == 0]
            found.extend([place_of(plan, one) for one in parents if plan.terms[one][0] == "set"])
    return found
