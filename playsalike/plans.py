"""Terms as numbered nodes: what working them out, and telling where they wait, go by."""

from playsalike.shapes import given_word, part_paths, parts_of


class Plan:
    """The nodes of a term over names, each one numbered ahead of its parts: 0 is the whole term.

    Of each node: its term, its parts, the node that it is a part of and which part of it, the
    node that gives its word (None if it is free), and the last node within it. A giver is used
    by the nodes that have its word.
    """

    def __init__(self, names, term):
        self.names = names
        self.terms = []
        self.parts = []
        self.parents = []
        self.which = []
        self.givers = []
        self.users = {}
        _number_nodes(self, term)
        self.last = _last_within(self.parents)


def _number_nodes(plan, term):
    waiting = [(term, None, None, {})]
    while len(waiting) > 0:
        part, parent, which, givers = waiting.pop()
        node = len(plan.terms)
        giver = givers.get(part[1]) if part[0] == "name" else None
        if giver is not None:
            plan.users.setdefault(giver, []).append(node)
        if parent is not None:
            plan.parts[parent].append(node)
        plan.terms.append(part)
        plan.parts.append([])
        plan.parents.append(parent)
        plan.which.append(which)
        plan.givers.append(giver)
        inner = parts_of(part)
        for at in reversed(range(len(inner))):
            word = given_word(part, at)
            scope = givers if word is None else {**givers, word: node}
            waiting.append((inner[at], node, at, scope))


def _last_within(parents):
    last = list(range(len(parents)))
    for node in reversed(range(1, len(parents))):
        parent = parents[node]
        last[parent] = max(last[parent], last[node])
    return last


def place_of(plan, node):
    """The place of a node in the term."""
    found = ()
    while plan.parents[node] is not None:
        parent = plan.parents[node]
        found = part_paths(plan.terms[parent])[plan.which[node]] + found
        node = parent
    return found


def uses_around(plan, node):
    """The nodes around a node that are uses of names, in whose arguments it stands; outermost first."""
    found = []
    node = plan.parents[node]
    while node is not None:
        if plan.terms[node][0] == "name":
            found.append(node)
        node = plan.parents[node]
    return found[::-1]
