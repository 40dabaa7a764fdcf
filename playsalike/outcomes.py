"""How whole pieces end, or that they never do."""

from playsalike.pieces import check_whole
from playsalike.running import Run, go_on


def outcome(piece):
    """The pair that tells how a whole piece ends: num, do, broken, or on if it never does."""
    check_whole(piece)
    run = Run(piece.size, piece.term, True)
    go_on(run, None)
    if run.stopped is not None:
        return (run.stopped, 0)
    if piece.kind == "num":
        return ("num", run.worths[-1])
    return ("do", 0)
