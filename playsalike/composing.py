"""Machines of pieces and functions that play one another, without the moves between them."""

from playsalike.couplings import Coupling
from playsalike.errors import BadClaims, TooMany
from playsalike.functions import net_of_function
from playsalike.heardmoves import moves_over
from playsalike.machines import MOST_STATES
from playsalike.nets import BEGUN, ENDED, States
from playsalike.passing import is_last
from playsalike.pieces import names_put
from playsalike.plays import net_of_piece

MOST_STANDINGS = 200000


class Reciter:
    """Plays the plays that a machine takes: at a state behind a heard move one move is told.

    tables tell of each state what each move that can be heard leads to.
    """

    def __init__(self, tables):
        self.tables = tables
        self.state = 0

    def can_hear(self):
        """The moves that can come."""
        return list(self.tables[self.state])

    def hear(self, move):
        """The move that is told behind this one, None if no play goes on so."""
        found = self.tables[self.state].get(move)
        if found is None:
            return None
        told, self.state = found
        return told

    def twin(self):
        """A reciter of its own that has come as far."""
        other = Reciter(self.tables)
        other.state = self.state
        return other

    def standing(self):
        """What all that it tells hangs on."""
        return self.state


def reciter_of(machine):
    """The reciter of a machine of plays."""
    letters = machine.letters
    told = [[(letters[k], goal) for k, goal in row] for row in machine.ways]
    return Reciter([{move: told[goal][0] for move, goal in row if len(told[goal]) > 0} for row in told])


def composed(piece, word, function):
    """The machine of the plays of both, the function being what the name stands for."""
    names = names_put(piece, word, function)
    nets = (net_of_piece(piece), net_of_function(function))
    if any([net.is_broken for net in nets]):
        raise BadClaims("a claim can break")
    first, second = [reciter_of(net.states.machine()) for net in nets]
    states = States(moves_over(piece.size, piece.kind, names))
    waiting = [(BEGUN, Coupling(first, {word: (function.params, second)}, {}))]
    while len(waiting) > 0:
        state, coupling = waiting.pop()
        goals = []
        for move in coupling.speaker().can_hear():
            other = coupling.twin()
            told = other.hear(move)
            if told is not None:
                goals.append((move, _behind(states, waiting, other, told)))
        states.lead(state, goals)
    return states.machine()


def _behind(states, waiting, coupling, told):
    """The state at which this is told; where its goal is new, that is still to be gone on from."""
    if is_last(told):
        return states.telling(told, ENDED)
    runs = [run.state for word, run in coupling.runs]
    key = tuple([coupling.is_piece_on, coupling.player.state] + runs)
    goal, is_new = states.waiting(key)
    if is_new:
        waiting.append((goal, coupling))
        if len(states.waits) > MOST_STANDINGS:
            raise TooMany(MOST_STATES)
    return states.telling(told, goal)
