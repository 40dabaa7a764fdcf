"""Nets of all plays of a term: machines before they are brought into their least form."""

from playsalike.errors import TooMany
from playsalike.letters import number_of_letters
from playsalike.machines import MOST_STATES, least_machine
from playsalike.outlooks import Outlook, boxes_key, standing_key
from playsalike.players import (awaited_behind, first_moves, is_asked, move_told, moves_awaited,
                                place_heard)
from playsalike.working import Work, go_on

# Beyond 20000 unlike pairs of a place and what new boxes keep TooMany may be raised.
MOST_PAIRS = 60000

# What awaits is told by in keys; a loop that is to be gone through awaits nothing.
AWAITED = {"loop": 0, "call": 1, "get": 2, "set": 3}

# The state behind each ended play.
ENDED = 1


class Net:
    """The states of a term of some plain sort that is played in all ways, from state 0.

    Behind each move that is heard stands a state at which one move is told.
    """

    def __init__(self, size, kind, plan, letters):
        self.size = size
        self.kind = kind
        self.plan = plan
        self.letters = letters
        self.numbers = number_of_letters(letters)
        self.ways = [[], []]
        self.is_broken = False
        self.waiting = []
        self.states = {}
        self.tellings = {}
        self.loops = {}
        self.pairs = {}
        self.outlooks = {}


def net_of(size, kind, plan, letters):
    """The net of all plays of the term of the plan, with these letters, in order."""
    net = Net(size, kind, plan, letters)
    _hear_all(net, 0, 0, None, {}, first_moves(kind, size))
    while len(net.waiting) > 0:
        state, node, awaits, kept = net.waiting.pop()
        moves = moves_awaited(Work(size, plan, kept, None), node, awaits)
        _hear_all(net, state, node, awaits, kept, moves)
    return net


def machine_of_net(net):
    """The machine of the ended plays."""
    return least_machine(net.letters, net.ways, [ENDED])


def _hear_all(net, state, node, awaits, kept, moves):
    """Lets the node, in this state, hear each of the moves."""
    row = []
    for move in moves:
        goal = _heard(net, node, awaits, dict(kept), move)
        if goal is not None:
            row.append((net.numbers[move], goal))
    net.ways[state] = sorted(row)


def _heard(net, node, awaits, kept, move):
    """The state behind a move that is heard, None if nothing is told any more."""
    work = Work(net.size, net.plan, kept, None)
    start, worth = place_heard(net.plan, node, awaits, move)
    deed = "begin" if awaits is None or is_asked(move) else "done"
    found = go_on(work, deed, start, worth)
    passed = []
    while found[0] == "loop":
        key = _key_at(net, work, found[1], "loop")
        if key in net.loops:
            return _settled(net, passed, net.loops[key])
        # Where it comes to this loop again, all being the same, it is lost.
        net.loops[key] = None
        passed.append(key)
        found = go_on(work, "begin", net.plan.parts[found[1]][0], None)
    return _settled(net, passed, _telling(net, work, found))


def _settled(net, loops, goal):
    """Notes what these loops have led to, and tells it."""
    for key in loops:
        net.loops[key] = goal
    return goal


def _key_at(net, work, node, awaits):
    """The key of what waits at a node; TooMany if there are too many pairs of places and boxes."""
    if node not in net.outlooks:
        net.outlooks[node] = Outlook(net.plan, node)
    outlook = net.outlooks[node]
    net.pairs[boxes_key(work, outlook)] = True
    if len(net.pairs) > MOST_PAIRS:
        raise TooMany(MOST_STATES)
    return standing_key(work, outlook, AWAITED[awaits])


def _telling(net, work, found):
    """The state at which what was found is told, None if it is lost."""
    move = move_told(net.plan, net.kind, found)
    if move is None:
        return None
    goal = ENDED
    if move == ("break",):
        net.is_broken = True
    elif found[0] != "ended":
        goal = _waiting_state(net, work, found[1], awaited_behind(move))
    told = (net.numbers[move], goal)
    if told not in net.tellings:
        net.tellings[told] = len(net.ways)
        net.ways.append([told])
    return net.tellings[told]


def _waiting_state(net, work, node, awaits):
    """The state of what waits at the node; a new one is still to hear all that can come."""
    key = _key_at(net, work, node, awaits)
    if key not in net.states:
        net.states[key] = len(net.ways)
        net.waiting.append((len(net.ways), node, awaits, work.kept))
        net.ways.append([])
    return net.states[key]
