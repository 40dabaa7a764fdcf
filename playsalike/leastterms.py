"""The least terms that do the same as a piece."""

from playsalike.errors import BadNumber
from playsalike.heardmoves import moves_over
from playsalike.kinds import is_within
from playsalike.likeness import has_just
from playsalike.nets import net_of
from playsalike.pieces import check_piece, made_piece
from playsalike.plans import Plan
from playsalike.plays import machine_of
from playsalike.termlists import Scope, heads, terms_of

MOST_NODES = 4


def least_same(piece, nodes):
    """The least term over the names of the piece that does the same, None if it has more nodes."""
    check_piece(piece)
    if not is_within(nodes, 1, MOST_NODES):
        raise BadNumber("nodes")
    machine = machine_of(piece)
    scope = Scope(piece.size, piece.names)
    for count in range(1, nodes + 1):
        for term in terms_of(heads(scope, piece.kind), count, _least_terms):
            if has_just(made_piece(piece.size, piece.names, term, piece.kind), machine):
                return term
    return None


def _least_terms(sort, scope, nodes):
    """The ascending list of the least terms for themselves of just so many nodes; the scope keeps it.

    Parts of a least term are least terms for themselves: so no other parts are tried.
    """
    if (sort, nodes) not in scope.lists:
        for fewer in range(1, nodes):
            _least_terms(sort, scope, fewer)
        found = []
        known = scope.known.setdefault(sort, {})
        for term in terms_of(heads(scope, sort), nodes, _least_terms):
            key = plays_key(scope, sort, term)
            if key not in known:
                known[key] = term
                found.append(term)
        scope.lists[(sort, nodes)] = found
    return scope.lists[(sort, nodes)]


def plays_key(scope, sort, term):
    """What tells the plays of a term of a plain sort, a box too: alike for those that do the same."""
    letters = moves_over(scope.size, sort, scope.names)
    machine = net_of(scope.size, sort, Plan(scope.names, term), letters).states.machine()
    return (machine.ways, machine.ends)
