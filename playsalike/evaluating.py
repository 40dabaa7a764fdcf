"""The plain meaning of whole pieces."""

from playsalike.errors import BadNumber
from playsalike.kinds import is_within
from playsalike.pieces import check_whole
from playsalike.running import Run, go_on

MOST_STEPS = 10 ** 6


def evaluated(piece, steps):
    """What comes of a whole piece within so many steps: (word, number, steps done)."""
    check_whole(piece)
    check_steps(steps)
    run = Run(piece.size, piece.term, False)
    go_on(run, steps)
    if run.stopped == "on":
        return ("on", 0, steps)
    if run.stopped == "broken":
        return ("broken", 0, run.steps)
    if piece.kind == "num":
        return ("num", run.worths[-1], run.steps)
    return ("do", 0, run.steps)


def check_steps(steps):
    """Raises BadNumber unless steps is how many steps may be asked for."""
    if not is_within(steps, 1, MOST_STEPS):
        raise BadNumber("steps")
