"""From which standings of boxes pieces end as wanted, and which ones loops keep to."""

from playsalike.boxlaws import Runs, check_boxes, check_standings, standings_behind
from playsalike.errors import BadPiece
from playsalike.pieces import check_piece
from playsalike.playing import BREAK
from playsalike.plays import machine_of


def before(piece, boxes, wanted):
    """The ascending list of all standings from which nothing breaks and all ends are wanted."""
    check_piece(piece)
    check_boxes(piece, boxes)
    check_standings(piece, boxes, wanted)
    let = {standing: True for standing in wanted}
    starts = _all_standings(piece.size, len(boxes))
    runs = Runs(machine_of(piece), boxes, starts)
    bad = runs.leading_to(lambda standing, last: last == BREAK or standing not in let)
    return [start for start in starts if (0, start) not in bad]


def _all_standings(size, many):
    """All standings of so many boxes, ascending."""
    found = [()]
    for _ in range(many):
        found = [standing + (number,) for standing in found for number in range(size)]
    return found


def least_kept(test, body, boxes, starts):
    """The least list of standings that has starts, and those behind each round of the loop."""
    check_piece(test)
    check_piece(body)
    _check_loop(test, body)
    check_boxes(test, boxes)
    check_standings(test, boxes, starts)
    machine = machine_of(test)
    body_machine = machine_of(body)
    kept = sorted({start: True for start in starts})
    while True:
        held = standings_behind(machine, boxes, kept, _is_held)
        behind = standings_behind(body_machine, boxes, held, lambda last: last != BREAK)
        further = sorted({standing: True for standing in kept + behind})
        if len(further) == len(kept):
            return kept
        kept = further


def _check_loop(test, body):
    if test.size != body.size:
        raise BadPiece("size")
    if test.names != body.names:
        raise BadPiece("names")
    if test.kind != "num" or body.kind != "do":
        raise BadPiece("sort")


def _is_held(last):
    """Whether this is the last move of a test that holds."""
    return last[0] == "num" and last[1] != 0
