"""What of all that nodes keep matters for what comes behind a node: so that states stay few."""

from playsalike.working import TWOS, number_of_two


class Outlook:
    """Which kept numbers tell what can come while a node waits, or behind it.

    boxes are the new boxes around the node; kept are those of them, and the made boxes whose
    number was written, that may be used yet. Where first numbers wait for second ones within one
    another, with nothing between, what becomes of the number to come is told as a whole: chains
    are pairs of such nodes, the innermost first, and whether it is only wanted if this is 0.
    """

    def __init__(self, plan, node):
        givers = _givers_around(plan, node)
        ahead = _ranges_ahead(plan, node)
        self.node = node
        self.boxes = [giver for giver in givers if plan.terms[giver][0] == "new"]
        self.kept = [giver for giver in givers if _is_used(plan.users.get(giver, []), ahead)]
        self.chains = _chains_around(plan, node)


def _givers_around(plan, node):
    """The new boxes, and the made boxes in whose last parts it stands, around a node."""
    found = []
    while plan.parents[node] is not None:
        which = plan.which[node]
        node = plan.parents[node]
        word = plan.terms[node][0]
        if word == "new" or word == "made" and which == 1:
            found.append(node)
    return found


def _is_used(users, ranges):
    return any([first <= user <= last for first, last in ranges for user in users])


def _ranges_ahead(plan, node):
    """Pairs of a first and a last node: what may be begun while the node waits, or behind it."""
    found = [(node, plan.last[node])]
    while plan.parents[node] is not None:
        which = plan.which[node]
        node = plan.parents[node]
        if plan.terms[node][0] in ("while", "name"):
            found.append((node, plan.last[node]))
        else:
            found.extend([(part, plan.last[part]) for part in _parts_behind(plan, node, which)])
    return found


def _parts_behind(plan, node, which):
    """The parts of a node that may be begun behind one of its parts."""
    word = plan.terms[node][0]
    parts = plan.parts[node]
    if word == "set":
        return parts[:which]
    if word == "made" or word == "if" and which > 0:
        return []
    return parts[which + 1:]


def _chains_around(plan, node):
    found = []
    chain = []
    while plan.parents[node] is not None:
        which = plan.which[node]
        node = plan.parents[node]
        if _is_changed(plan.terms[node][0], which):
            chain.append(node)
        elif not _is_passed(plan.terms[node][0], which):
            found.append((chain, _is_test(plan.terms[node][0], which)))
            chain = []
    found.append((chain, False))
    return [told for told in found if any([plan.terms[one][0] != "not" for one in told[0]])]


def _is_changed(word, which):
    """Whether a term makes its number of that of this part, knowing all others."""
    return word == "not" or word in TWOS and which == 1


def _is_passed(word, which):
    """Whether the number of this part is that of the term."""
    if word in ("then", "if"):
        return which > 0
    return word in ("get", "new") or word == "made" and which == 0


def _is_test(word, which):
    """Whether it matters of the number of this part only if it is 0."""
    return word in ("if", "while", "claim") and which == 0


def standing_key(work, outlook, awaits):
    """A tuple of numbers: where it is alike, the same can come."""
    kept = work.kept
    key = [outlook.node, awaits]
    key.extend([kept[giver] for giver in outlook.kept])
    key.extend([_chain_code(work, chain, is_test) for chain, is_test in outlook.chains])
    return tuple(key)


def _chain_code(work, chain, is_test):
    """One number for what becomes of each number that may come to the innermost node."""
    code = 0
    for number in range(work.size):
        for node in chain:
            word = work.plan.terms[node][0]
            if word == "not":
                number = 1 if number == 0 else 0
            else:
                number = number_of_two(work.size, word, work.kept[node], number)
        code = code * work.size + (min(number, 1) if is_test else number)
    return code


def boxes_key(work, outlook):
    """A tuple of numbers: where the work is, and what its new boxes keep."""
    return tuple([outlook.node] + [work.kept[node] for node in outlook.boxes])
