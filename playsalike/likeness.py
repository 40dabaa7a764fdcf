"""Whether a piece has just the plays that a machine takes, told without making its own machine."""

from playsalike.moves import moves_of
from playsalike.nets import BEGUN, ENDED, begun_net, heard_further
from playsalike.pieces import plan_of_piece


def has_just(piece, machine):
    """Whether the plays of the piece are just what the machine of a piece of its kind takes.

    States of the net of the piece are held against states of the machine: None stands for those
    rows that no play begins with. As the machine is the least one no state can stand for two.
    """
    net = begun_net(piece.size, piece.kind, plan_of_piece(piece), moves_of(piece))
    means = {BEGUN: 0}
    if not _goes_along(net, BEGUN, machine, means):
        return False
    while len(net.unheard) > 0:
        if not _goes_along(net, heard_further(net), machine, means):
            return False
    return True


def _goes_along(net, state, machine, means):
    """Whether what the state hears leads to what the machine takes; notes what goals stand for."""
    tellings = dict(net.states.ways[state])
    known = {} if means[state] is None else dict(machine.ways[means[state]])
    if not all([k in tellings for k in known]):
        return False
    for k, telling in tellings.items():
        told, goal = net.states.ways[telling][0]
        behind = None
        if k in known:
            wanted, behind = machine.ways[known[k]][0]
            if told != wanted:
                return False
        if goal == ENDED and behind is None:
            return False
        if goal != ENDED and means.setdefault(goal, behind) != behind:
            return False
    return True
