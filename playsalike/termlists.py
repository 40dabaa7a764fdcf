"""All terms over names: what stands at the head of one, and how many there are of so many nodes."""

from itertools import product

from playsalike.errors import TooMany
from playsalike.shapes import FORMS, GIVEN, with_parts
from playsalike.sorts import BOX, NUMBER
from playsalike.words import fresh_word

MOST_TERMS = 3000


class Scope:
    """What words mean where a term stands; lists, counts and what is known are kept for what asks.

    What "new" and "made" terms give is the first word that means nothing there.
    """

    def __init__(self, size, names):
        self.size = size
        self.names = names
        self.word = fresh_word(names)
        self.lists = {}
        self.counts = {}
        self.known = {}
        self.inner = {}

    def with_word(self, sort):
        """The scope in which this scope's word has this sort, too."""
        if sort not in self.inner:
            self.inner[sort] = Scope(self.size, {**self.names, self.word: sort})
        return self.inner[sort]


class Head:
    """A term without its parts: of each of these the plain sort and the scope."""

    def __init__(self, term, parts):
        self.term = term
        self.parts = parts


def heads(scope, sort):
    """The list of the heads of all terms of this plain sort."""
    found = []
    for word in FORMS:
        if GIVEN.get(word, sort) == sort and (word in GIVEN or sort != "box"):
            found.extend(_heads_of(scope, sort, word))
    for word, told in scope.names.items():
        taken, given = told
        if given == sort:
            found.append(Head(("name", word, ()), [(plain, scope) for plain in taken]))
    return found


def _heads_of(scope, sort, word):
    """The heads of this plain sort that have this word."""
    if word == "number":
        return [Head((word, number), []) for number in range(scope.size)]
    if word == "never":
        return [Head((word, sort), [])]
    if word == "new":
        body = (sort, scope.with_word(BOX))
        return [Head((word, scope.word, number, None), [body]) for number in range(scope.size)]
    if word == "made":
        return [Head((word, None, scope.word, None), [("num", scope), ("do", scope.with_word(NUMBER))])]
    parts = [(sort if plain in ("some", "alike") else plain, scope) for plain in FORMS[word]]
    return [Head((word,) + tuple([None for plain in parts]), parts)]


def _splits(total, many):
    """All lists of so many numbers from 1 on that make this total."""
    if many == 0:
        return [[]] if total == 0 else []
    return [[first] + others for first in range(1, total - many + 2)
            for others in _splits(total - first, many - 1)]


def count_terms(scope, sort, nodes):
    """How many terms of this plain sort have just so many nodes."""
    if (sort, nodes) not in scope.counts:
        many = 0
        for head in heads(scope, sort):
            for split in _splits(nodes - 1, len(head.parts)):
                ways = 1
                for part, inner_nodes in zip(head.parts, split):
                    ways *= count_terms(part[1], part[0], inner_nodes)
                many += ways
        scope.counts[(sort, nodes)] = many
    return scope.counts[(sort, nodes)]


def terms_of(told_heads, nodes, lists):
    """The ascending list of the terms of just so many nodes with these heads, parts being in lists.

    lists tells of a plain sort, a scope and a number of nodes the list of parts; TooMany if there
    are too many terms.
    """
    found = []
    for head in told_heads:
        for split in _splits(nodes - 1, len(head.parts)):
            rows = [lists(part[0], part[1], many) for part, many in zip(head.parts, split)]
            ways = 1
            for row in rows:
                ways *= len(row)
            if len(found) + ways > MOST_TERMS:
                raise TooMany(MOST_TERMS)
            found.extend([with_parts(head.term, parts) for parts in _combined(rows)])
    return sorted(found)


def _combined(rows):
    """All lists with one thing of each row."""
    combined = [[]]
    for row in rows:
        combined = [ahead + [thing] for ahead, thing in product(combined, row)]
    return combined
