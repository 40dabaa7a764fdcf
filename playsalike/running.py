"""Working out whole terms node by node, with what is still to do kept in a list."""

# Jobs with which a node is begun: they count as steps.
COUNTED = ("begin", "read", "write")


class Run:
    """A whole term that is being worked out.

    What words mean is a dict from words to numbers, or, for boxes, to lists of one number.
    """

    def __init__(self, size, term, is_watched):
        self.size = size
        self.is_watched = is_watched
        self.steps = 0
        self.jobs = [("begin", term, {})]
        self.worths = []
        self.stopped = None


class Loop:
    """A loop that is gone through, and what its boxes kept at a marked round.

    Where the same comes again it goes on for ever; marks are set ever farther apart.
    """

    def __init__(self, term, meanings):
        self.term = term
        self.meanings = meanings
        self.marked = None
        self.rounds = 0
        self.most = 1

    def comes_again(self):
        """Counts one more round: whether all boxes keep what they kept at the marked one."""
        now = [worth[0] for worth in self.meanings.values() if isinstance(worth, list)]
        if now == self.marked:
            return True
        self.rounds += 1
        if self.rounds == self.most:
            self.marked = now
            self.rounds = 0
            self.most *= 2
        return False


def go_on(run, most):
    """Goes on until the run is done, has stopped, or has begun most nodes (None: no bound)."""
    while len(run.jobs) > 0 and run.stopped is None:
        job = run.jobs.pop()
        if job[0] in COUNTED:
            if run.steps == most:
                run.stopped = "on"
                return
            run.steps += 1
        deed = JOBS[job[0]]
        deed(run, job)


def _begin(run, job):
    deed = BEGINNINGS[job[1][0]]
    deed(run, job[1], job[2])


def _begin_number(run, term, _):
    run.worths.append(term[1])


def _begin_skip(_run, _term, _meanings):
    return


def _begin_never(run, _term, _meanings):
    run.stopped = "on"


def _begin_name(run, term, meanings):
    run.worths.append(meanings[term[1]])


def _begin_pair(run, term, meanings):
    run.jobs.append((term[0],))
    run.jobs.append(("begin", term[2], meanings))
    run.jobs.append(("begin", term[1], meanings))


def _begin_not(run, term, meanings):
    run.jobs.append(("not",))
    run.jobs.append(("begin", term[1], meanings))


def _begin_then(run, term, meanings):
    run.jobs.append(("begin", term[2], meanings))
    run.jobs.append(("begin", term[1], meanings))


def _begin_if(run, term, meanings):
    run.jobs.append(("choose", term, meanings))
    run.jobs.append(("begin", term[1], meanings))


def _begin_while(run, term, meanings):
    run.jobs.append(("again", Loop(term, meanings)))


def _begin_get(run, term, meanings):
    run.jobs.append(("read", term[1], meanings))


def _begin_set(run, term, meanings):
    run.jobs.append(("write", term[1], meanings))
    run.jobs.append(("begin", term[2], meanings))


def _begin_new(run, term, meanings):
    run.jobs.append(("begin", term[3], {**meanings, term[1]: [term[2]]}))


def _begin_claim(run, term, meanings):
    run.jobs.append(("hold",))
    run.jobs.append(("begin", term[1], meanings))


def _read(run, job):
    box, meanings = job[1], job[2]
    if box[0] == "name":
        run.worths.append(meanings[box[1]][0])
    else:
        run.jobs.append(("begin", box[1], meanings))


def _write(run, job):
    box, meanings = job[1], job[2]
    number = run.worths.pop()
    if box[0] == "name":
        meanings[box[1]][0] = number
    else:
        run.jobs.append(("begin", box[3], {**meanings, box[2]: number}))


def _work_pair(run, job):
    second = run.worths.pop()
    first = run.worths.pop()
    run.worths.append(number_of_two(run.size, job[0], first, second))


def number_of_two(size, word, first, second):
    """The number that a term of this word makes of the numbers of its two parts."""
    if word == "sum":
        number = first + second
        return number - size if number >= size else number
    if word == "less":
        number = first - second
        return number + size if number < 0 else number
    if word == "same":
        return 1 if first == second else 0
    return 1 if first < second else 0


def _work_not(run, _job):
    run.worths.append(1 if run.worths.pop() == 0 else 0)


def _choose(run, job):
    term, meanings = job[1], job[2]
    chosen = term[3] if run.worths.pop() == 0 else term[2]
    run.jobs.append(("begin", chosen, meanings))


def _again(run, job):
    loop = job[1]
    if run.is_watched and loop.comes_again():
        run.stopped = "on"
        return
    run.jobs.append(("test", loop))
    run.jobs.append(("begin", loop.term[1], loop.meanings))


def _test(run, job):
    loop = job[1]
    if run.worths.pop() != 0:
        run.jobs.append(("again", loop))
        run.jobs.append(("begin", loop.term[2], loop.meanings))


def _hold(run, _job):
    if run.worths.pop() == 0:
        run.stopped = "broken"


JOBS = {
    "begin": _begin,
    "read": _read,
    "write": _write,
    "sum": _work_pair,
    "less": _work_pair,
    "same": _work_pair,
    "below": _work_pair,
    "not": _work_not,
    "choose": _choose,
    "again": _again,
    "test": _test,
    "hold": _hold,
}

BEGINNINGS = {
    "number": _begin_number,
    "skip": _begin_skip,
    "never": _begin_never,
    "name": _begin_name,
    "sum": _begin_pair,
    "less": _begin_pair,
    "same": _begin_pair,
    "below": _begin_pair,
    "not": _begin_not,
    "then": _begin_then,
    "if": _begin_if,
    "while": _begin_while,
    "get": _begin_get,
    "set": _begin_set,
    "new": _begin_new,
    "claim": _begin_claim,
}
