"""Rules that shorten: all small ones, and pieces brought into normal form by them."""

from playsalike.errors import BadNumber, BadRule, BadRules, BadSort
from playsalike.kinds import check_size, is_list, is_within
from playsalike.leastterms import plays_key
from playsalike.pieces import Piece, check_piece
from playsalike.rewriting import fitted, rewritten_by
from playsalike.rules import Rule, check_rule
from playsalike.scopes import parts_with_words
from playsalike.shapes import free_counts, measures
from playsalike.sorts import ascending, is_names
from playsalike.termlists import Scope, heads, terms_of

MOST_HOLES = 2
MOST_NODES = 3
MOST_RULES = 400


class SortedOut:
    """Terms of one sort and number of nodes: the tight ones, and pairs of others and what they are the same as."""

    def __init__(self, tight, pairs):
        self.tight = tight
        self.pairs = pairs


def shortens(rule):
    """Whether right has fewer nodes than left, and no hole more often."""
    check_rule(rule)
    if measures(rule.right.term)[0] >= measures(rule.left.term)[0]:
        return False
    left = free_counts(rule.left.term)
    return all([many <= left[hole] for hole, many in free_counts(rule.right.term).items()])


def small_rules(size, holes, nodes):
    """The right rules that shorten terms of at most so many nodes that are not tight, by their lefts."""
    check_size(size)
    if not is_names(holes) or len(holes) > MOST_HOLES or any([len(sort[0]) > 0 for sort in holes.values()]):
        raise BadSort("at most two holes are wanted, without arguments")
    if not is_within(nodes, 1, MOST_NODES):
        raise BadNumber("nodes")
    scope = Scope(size, ascending(holes))
    pairs = []
    for sort in ("num", "do"):
        for count in range(1, nodes + 1):
            pairs.extend(_sorted_out(sort, scope, count).pairs)
    rules = [Rule(Piece(size, holes, left), Piece(size, holes, right)) for left, right in sorted(pairs)]
    return [rule for rule in rules if shortens(rule)]


def _sorted_out(sort, scope, nodes):
    """The terms of just so many nodes whose parts are tight, sorted out; the scope keeps them.

    "new" and "made" are left aside: with two nodes or fewer nothing is made by them that is not
    made without them. known leads from what tells plays to the first and least such term.
    """
    if (sort, nodes) not in scope.lists:
        for fewer in range(1, nodes):
            _sorted_out(sort, scope, fewer)
        plain = [head for head in heads(scope, sort) if head.term[0] not in ("new", "made")]
        known = scope.known.setdefault(sort, {})
        found = SortedOut([], [])
        for term in terms_of(plain, nodes, _tight):
            least = known.setdefault(plays_key(scope, sort, term), term)
            if measures(least)[0] < nodes:
                found.pairs.append((term, least))
            else:
                found.tight.append(term)
        scope.lists[(sort, nodes)] = found
    return scope.lists[(sort, nodes)]


def _tight(sort, scope, nodes):
    return _sorted_out(sort, scope, nodes).tight


def normal(piece, rules):
    """The pair of the piece with the first rules used wherever they fit, and the steps of this."""
    check_piece(piece)
    if not is_list(rules) or len(rules) > MOST_RULES:
        raise BadRules("a list of at most 400 rules is wanted")
    if not all([isinstance(rule, Rule) and shortens(rule) for rule in rules]):
        raise BadRules("rules that shorten are wanted")
    if not all([rule.left.size == piece.size for rule in rules]):
        raise BadRule("size")
    steps = []
    step = _first_step(piece, rules)
    while step is not None:
        number, at, found = step
        piece = rewritten_by(rules[number], piece, at, found)
        steps.append((number, at))
        step = _first_step(piece, rules)
    return (piece, steps)


def _first_step(piece, rules):
    """The number of the first rule that fits at the first place at which one does, that, and the terms."""
    for part in parts_with_words(piece.names, piece.term):
        for number, rule in enumerate(rules):
            found = fitted(rule, part.names, part.term)
            if found is not None:
                return (number, part.at, found)
    return None
