"""Least plays that part pieces."""

from playsalike.alike import check_kinds, first_more
from playsalike.asking import first_apart
from playsalike.machines import takes
from playsalike.plays import machine_of


def parting(piece, other):
    """The pair of the least play that just one of both has, and which one; None if there is none."""
    check_kinds(piece, other)
    machine = machine_of(piece)
    play = first_apart(machine, machine_of(other))
    if play is None:
        return None
    return (tuple(play), 0 if takes(machine, play) else 1)


def beyond(piece, other):
    """The least play of piece that shows it is not less than other; None if it is less."""
    check_kinds(piece, other)
    play = first_more(machine_of(piece), machine_of(other))
    return None if play is None else tuple(play)
