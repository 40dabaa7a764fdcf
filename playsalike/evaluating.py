"""The plain meaning of whole pieces."""

from playsalike.errors import BadNumber
from playsalike.kinds import is_within
from playsalike.pieces import check_whole, plan_of_piece
from playsalike.working import Work, go_on

MOST_STEPS = 10 ** 6


def evaluated(piece, steps):
    """What comes of a whole piece within so many steps: (word, number, steps done)."""
    check_whole(piece)
    check_steps(steps)
    work = Work(piece.size, plan_of_piece(piece), {}, steps)
    deed, node, worth = go_on(work, "begin", 0, None)
    while deed == "loop":
        deed, node, worth = go_on(work, "begin", work.plan.parts[node][0], None)
    if deed == "broken":
        return ("broken", 0, work.steps)
    if deed == "ended":
        return (piece.kind, worth if piece.kind == "num" else 0, work.steps)
    return ("on", 0, steps)


def check_steps(steps):
    """Raises BadNumber unless steps is how many steps may be asked for."""
    if not is_within(steps, 1, MOST_STEPS):
        raise BadNumber("steps")
