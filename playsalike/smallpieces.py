"""All small terms over names, and the lots of those that do the same."""

from playsalike.errors import BadNumber, BadSort, TooMany
from playsalike.kinds import check_size, is_within
from playsalike.pieces import made_piece
from playsalike.plays import machine_of
from playsalike.sorts import ascending, check_names
from playsalike.termlists import MOST_TERMS, Scope, count_terms, heads, terms_of

MOST_NODES = 6


def all_terms(size, names, sort, nodes):
    """The list of all terms of this sort with at most so many nodes, those with fewer ones first."""
    check_size(size)
    check_names(names)
    if not isinstance(sort, str) or sort not in ("num", "do"):
        raise BadSort("terms of numbers or of deeds are wanted")
    if not is_within(nodes, 1, MOST_NODES):
        raise BadNumber("nodes")
    scope = Scope(size, ascending(names))
    many = sum([count_terms(scope, sort, count) for count in range(1, nodes + 1)])
    if many > MOST_TERMS:
        raise TooMany(MOST_TERMS)
    found = []
    for count in range(1, nodes + 1):
        found.extend(_terms(sort, scope, count))
    return found


def _terms(sort, scope, nodes):
    """The ascending list of the terms of this sort with just so many nodes; the scope keeps it."""
    if (sort, nodes) not in scope.lists:
        scope.lists[(sort, nodes)] = terms_of(heads(scope, sort), nodes, _terms)
    return scope.lists[(sort, nodes)]


def classes(size, names, sort, nodes):
    """The list of the lots of all these terms that do the same."""
    lots = {}
    for term in all_terms(size, names, sort, nodes):
        machine = machine_of(made_piece(size, names, term, sort))
        lots.setdefault((machine.ways, machine.ends), []).append(term)
    return [tuple(lot) for lot in lots.values()]
