"""Working terms out node by node, up to what they tell: no call stands within another one.

What is to be done next, and what comes of it, is a triple (deed, node, worth): "begin" a node
(a box is written if a number is its worth, and read if None is), "done" with a node. It goes on
until it comes to a "loop" that is to be gone through, "asks" for a name, "answers" for an
argument (its place and worth), has "ended", is "broken", "lost", or has "spent" its steps.
The worth of a deed, and of a box that was written, is None.
"""

TWOS = ("sum", "less", "same", "below")


class Work:
    """A term that is worked out: what its nodes keep, and how many nodes were begun.

    Of nodes that are begun and not done are kept: the number in a new box, the number that is
    written into a made box, and the first number of two.
    """

    def __init__(self, size, plan, kept, most):
        self.size = size
        self.plan = plan
        self.kept = kept
        self.steps = 0
        self.most = most


class Watch:
    """Looks whether a work comes to the same again: marks are set ever farther apart."""

    def __init__(self):
        self.marked = None
        self.rounds = 0
        self.most = 1

    def comes_again(self, standing):
        """Counts one more round: whether this standing is the marked one."""
        if standing == self.marked:
            return True
        self.rounds += 1
        if self.rounds == self.most:
            self.marked = standing
            self.rounds = 0
            self.most *= 2
        return False


def go_on(work, deed, node, worth):
    """Goes on until there is something else to be told than to begin a node or to be done."""
    plan = work.plan
    while True:
        if deed == "begin":
            if work.steps == work.most:
                return ("spent", node, worth)
            work.steps += 1
            action = BEGINNINGS[plan.terms[node][0]]
            deed, node, worth = action(work, node, worth)
        elif deed == "done":
            parent = plan.parents[node]
            if parent is None:
                return ("ended", node, worth)
            action = ENDINGS[plan.terms[parent][0]]
            deed, node, worth = action(work, parent, plan.which[node], worth)
        else:
            return (deed, node, worth)


def gone_through(work, found):
    """What comes behind all loops; those that never end are lost."""
    watch = Watch()
    while found[0] == "loop":
        if watch.comes_again([found[1], dict(work.kept)]):
            return ("lost", found[1], None)
        found = go_on(work, "begin", work.plan.parts[found[1]][0], None)
    return found


def _begin_number(work, node, _worth):
    return ("done", node, work.plan.terms[node][1])


def _begin_skip(_work, node, _worth):
    return ("done", node, None)


def _begin_never(_work, node, _worth):
    return ("lost", node, None)


def _begin_name(work, node, worth):
    giver = work.plan.givers[node]
    if giver is None:
        return ("asks", node, worth)
    if worth is None:
        return ("done", node, work.kept[giver])
    work.kept[giver] = worth
    return ("done", node, None)


def _begin_first(work, node, _worth):
    return ("begin", work.plan.parts[node][0], None)


def _begin_while(_work, node, _worth):
    return ("loop", node, None)


def _begin_set(work, node, _worth):
    return ("begin", work.plan.parts[node][1], None)


def _begin_new(work, node, _worth):
    work.kept[node] = work.plan.terms[node][2]
    return ("begin", work.plan.parts[node][0], None)


def _begin_made(work, node, worth):
    if worth is None:
        return ("begin", work.plan.parts[node][0], None)
    work.kept[node] = worth
    return ("begin", work.plan.parts[node][1], None)


def _end_two(work, node, which, worth):
    if which == 0:
        work.kept[node] = worth
        return ("begin", work.plan.parts[node][1], None)
    word = work.plan.terms[node][0]
    return ("done", node, number_of_two(work.size, word, work.kept.pop(node), worth))


def number_of_two(size, word, first, second):
    """The number that a term of this word makes of the numbers of its two parts."""
    if word == "sum":
        number = first + second
        return number - size if number >= size else number
    if word == "less":
        number = first - second
        return number + size if number < 0 else number
    if word == "same":
        return 1 if first == second else 0
    return 1 if first < second else 0


def _end_not(_work, node, _which, worth):
    return ("done", node, 1 if worth == 0 else 0)


def _end_then(work, node, which, worth):
    if which == 0:
        return ("begin", work.plan.parts[node][1], None)
    return ("done", node, worth)


def _end_if(work, node, which, worth):
    if which == 0:
        return ("begin", work.plan.parts[node][2 if worth == 0 else 1], None)
    return ("done", node, worth)


def _end_while(work, node, which, worth):
    if which == 1:
        return ("loop", node, None)
    if worth == 0:
        return ("done", node, None)
    return ("begin", work.plan.parts[node][1], None)


def _end_get(_work, node, _which, worth):
    return ("done", node, worth)


def _end_set(work, node, which, worth):
    if which == 1:
        return ("begin", work.plan.parts[node][0], worth)
    return ("done", node, None)


def _end_new(work, node, _which, worth):
    del work.kept[node]
    return ("done", node, worth)


def _end_made(work, node, which, worth):
    if which == 1:
        del work.kept[node]
    return ("done", node, worth)


def _end_claim(_work, node, _which, worth):
    return ("broken" if worth == 0 else "done", node, None)


def _end_argument(_work, node, which, worth):
    return ("answers", node, (which, worth))


BEGINNINGS = {
    "number": _begin_number,
    "skip": _begin_skip,
    "never": _begin_never,
    "name": _begin_name,
    "sum": _begin_first,
    "less": _begin_first,
    "same": _begin_first,
    "below": _begin_first,
    "not": _begin_first,
    "then": _begin_first,
    "if": _begin_first,
    "while": _begin_while,
    "get": _begin_first,
    "set": _begin_set,
    "new": _begin_new,
    "made": _begin_made,
    "claim": _begin_first,
}

ENDINGS = {
    "name": _end_argument,
    "sum": _end_two,
    "less": _end_two,
    "same": _end_two,
    "below": _end_two,
    "not": _end_not,
    "then": _end_then,
    "if": _end_if,
    "while": _end_while,
    "get": _end_get,
    "set": _end_set,
    "new": _end_new,
    "made": _end_made,
    "claim": _end_claim,
}
