"""How whole pieces end, or that they never do."""

from playsalike.pieces import check_whole, plan_of_piece
from playsalike.working import Work, go_on, gone_through


def outcome(piece):
    """The pair that tells how a whole piece ends: num, do, broken, or on if it never does."""
    check_whole(piece)
    work = Work(piece.size, plan_of_piece(piece), {}, None)
    deed, _, worth = gone_through(work, go_on(work, "begin", 0, None))
    if deed == "ended":
        return (piece.kind, worth if piece.kind == "num" else 0)
    return ("broken" if deed == "broken" else "on", 0)
