"""Whole programs: pieces for all names of which something is given."""

from playsalike.couples import Couple
from playsalike.givings import boxes_given, check_all_given, functions_given
from playsalike.pieces import body_of, check_measures, check_piece, made_piece
from playsalike.puttings import measured, replaced


def programmed(piece, givings):
    """What comes of the piece with what is given: (word, number, moves passed within)."""
    check_piece(piece)
    check_all_given(piece, givings)
    couple = Couple(piece, givings)
    told = couple.hear(("ask",))
    if couple.word != "ended":
        return (couple.word, 0, couple.passed())
    return (piece.kind, told[1] if piece.kind == "num" else 0, couple.passed())


def whole_piece(piece, givings):
    """The whole piece that is made of the piece and of what is given."""
    check_piece(piece)
    check_all_given(piece, givings)
    bodies = {word: body_of(function) for word, function in functions_given(givings).items()}
    whole = replaced(measured(piece.term), bodies)
    boxes = boxes_given(givings)
    check_measures(whole.nodes + len(boxes), whole.depth + len(boxes))
    term = whole.term
    for word in sorted(boxes, reverse=True):
        term = ("new", word, boxes[word], term)
    return made_piece(piece.size, {}, term, piece.kind)
