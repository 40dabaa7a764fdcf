"""Nets of all plays of a term: machines before they are brought into their least form."""

from playsalike.errors import TooMany
from playsalike.letters import number_of_letters
from playsalike.machines import MOST_STATES, least_machine
from playsalike.outlooks import Outlook, boxes_key, standing_key
from playsalike.players import awaited_behind, begun_by, first_moves, move_told, moves_awaited
from playsalike.playing import BREAK
from playsalike.working import Work, go_on

# Beyond 20000 unlike pairs of a place and what new boxes keep TooMany may be raised.
MOST_PAIRS = 100000

# What awaits is told by in keys; a loop that is to be gone through awaits nothing.
AWAITED = {"loop": 0, "call": 1, "get": 2, "set": 3}

# The states ahead of all moves, and behind each ended play.
BEGUN = 0
ENDED = 1


class States:
    """States that plays lead to: behind each move that is heard stands one at which one is told.

    Those that wait for a move are known by keys.
    """

    def __init__(self, letters):
        self.letters = letters
        self.numbers = number_of_letters(letters)
        self.ways = [[], []]
        self.waits = {}
        self.tellings = {}

    def waiting(self, key):
        """The pair of the state that waits with this key, and whether it is a new one."""
        if key in self.waits:
            return self.waits[key], False
        self.waits[key] = len(self.ways)
        self.ways.append([])
        return self.waits[key], True

    def telling(self, move, goal):
        """The state at which this move is told, and leads to this goal."""
        told = (self.numbers[move], goal)
        if told not in self.tellings:
            self.tellings[told] = len(self.ways)
            self.ways.append([told])
        return self.tellings[told]

    def lead(self, state, goals):
        """Lets moves that are heard, pairs of a move and a goal, lead on from a state that waits."""
        self.ways[state] = sorted([(self.numbers[move], goal) for move, goal in goals])

    def machine(self):
        """The machine of the rows that lead from the first state to the ended one."""
        return least_machine(self.letters, self.ways, [ENDED])


class Net:
    """A term of some plain sort that is played in all ways, and the states that this leads to."""

    def __init__(self, size, kind, plan, letters):
        self.size = size
        self.kind = kind
        self.plan = plan
        self.states = States(letters)
        self.is_broken = False
        self.unheard = []
        self.loops = {}
        self.pairs = {}
        self.outlooks = {}


def net_of(size, kind, plan, letters):
    """The net of all plays of the term of the plan, with these letters, in order."""
    net = begun_net(size, kind, plan, letters)
    while len(net.unheard) > 0:
        heard_further(net)
    return net


def begun_net(size, kind, plan, letters):
    """The net of the first moves of plays: what is heard behind them is still to be gone through."""
    net = Net(size, kind, plan, letters)
    _hear_all(net, BEGUN, (0, None, {}), first_moves(kind, size))
    return net


def heard_further(net):
    """The state of one that was still to be gone through: it hears all moves that can come."""
    state, stand = net.unheard.pop()
    node, awaits, kept = stand
    _hear_all(net, state, stand, moves_awaited(Work(net.size, net.plan, kept, None), node, awaits))
    return state


def _hear_all(net, state, stand, moves):
    """Lets what stands at a node hear each of the moves."""
    goals = [(move, _heard(net, stand, move)) for move in moves]
    net.states.lead(state, [(move, goal) for move, goal in goals if goal is not None])


def _heard(net, stand, move):
    """The state behind a move that is heard, None if nothing is told any more."""
    node, awaits, kept = stand
    work = Work(net.size, net.plan, dict(kept), None)
    deed, start, worth = begun_by(net.plan, node, awaits, move)
    found = go_on(work, deed, start, worth)
    passed = []
    while found[0] == "loop":
        key = _key_at(net, work, found[1], "loop")
        if key in net.loops:
            return _settled(net, passed, net.loops[key])
        # Where it comes to this loop again, all being the same, it is lost.
        net.loops[key] = None
        passed.append(key)
        found = go_on(work, "begin", net.plan.parts[found[1]][0], None)
    return _settled(net, passed, _telling(net, work, found))


def _settled(net, passed, goal):
    """Notes what the loops with these keys have led to, and tells it."""
    for key in passed:
        net.loops[key] = goal
    return goal


def _key_at(net, work, node, awaits):
    """The key of what waits at a node; TooMany if there are too many pairs of places and boxes."""
    if node not in net.outlooks:
        net.outlooks[node] = Outlook(net.plan, node)
    outlook = net.outlooks[node]
    net.pairs[boxes_key(work, outlook)] = True
    if len(net.pairs) > MOST_PAIRS:
        raise TooMany(MOST_STATES)
    return standing_key(work, outlook, AWAITED[awaits])


def _telling(net, work, found):
    """The state at which what was found is told, None if it is lost."""
    move = move_told(net.plan, net.kind, found)
    if move is None:
        return None
    if move == BREAK:
        net.is_broken = True
    if found[0] in ("ended", "broken"):
        return net.states.telling(move, ENDED)
    awaits = awaited_behind(move)
    state, is_new = net.states.waiting(_key_at(net, work, found[1], awaits))
    if is_new:
        net.unheard.append((state, (found[1], awaits, work.kept)))
    return net.states.telling(move, state)
