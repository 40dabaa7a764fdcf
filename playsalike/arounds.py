"""Programs around pieces, and the whole programs that are made of both."""

from playsalike.errors import BadAround, BadPiece, BadTerm, TooMany
from playsalike.evaluating import check_steps, evaluated
from playsalike.kinds import check_size, is_ascending, is_pair, is_within, is_word
from playsalike.pieces import Function, body_of, check_piece, made_piece
from playsalike.puttings import measured, replaced
from playsalike.shapes import has_claim
from playsalike.sorts import BOX, ascending, check_names
from playsalike.terms import checked_sort

MOST_BOXES = 3
MOST_WHOLE_NODES = 20000


class Around:
    """A program around pieces: boxes, functions that stand for names, and what is done with it."""

    def __init__(self, size, names, sort, boxes, functions, ending):
        check_size(size)
        check_names(names)
        if not isinstance(sort, str) or sort not in ("num", "do"):
            raise BadAround("sort")
        if not _is_boxes(size, names, boxes):
            raise BadAround("boxes")
        given = {word: BOX for word, number in boxes}
        if not _is_functions(size, names, given, functions):
            raise BadAround("functions")
        if not _is_ending(size, {**given, "it": ((), sort)}, ending):
            raise BadAround("ending")
        self.size = size
        self.names = ascending(names)
        self.kind = sort
        self.boxes = boxes
        self.functions = ascending(functions)
        self.ending = ending

    def __eq__(self, other):
        return (isinstance(other, Around) and self.size == other.size
                and self.names == other.names and self.kind == other.kind
                and self.boxes == other.boxes and self.functions == other.functions
                and self.ending == other.ending)


def _is_boxes(size, names, boxes):
    if not isinstance(boxes, tuple) or len(boxes) > MOST_BOXES:
        return False
    if not all([is_pair(box) and is_word(box[0]) for box in boxes]):
        return False
    if not all([is_within(number, 0, size - 1) for word, number in boxes]):
        return False
    words = [word for word, number in boxes]
    return is_ascending(words) and not any([word in names or word == "it" for word in words])


def _is_functions(size, names, given, functions):
    if not isinstance(functions, dict) or len(functions) != len(names):
        return False
    if not all([word in functions for word in names]):
        return False
    return all([_is_function(size, names[word], given, functions[word]) for word in names])


def _is_function(size, sort, given, function):
    if not isinstance(function, Function) or function.size != size or function.kind != sort:
        return False
    return function.names == given and not has_claim(function.term)


def _is_ending(size, names, ending):
    try:
        sort = checked_sort(size, names, ending)
    except BadTerm:
        return False
    return sort == "do" and not has_claim(ending)


def made_around(size, names, kind, boxes, functions, ending):
    """The Around of right things, with however many boxes and however great terms."""
    around = Around(size, {}, kind, (), {}, ("skip",))
    around.names = ascending(names)
    around.boxes = boxes
    around.functions = ascending(functions)
    around.ending = ending
    return around


def check_around(around):
    """Raises BadAround(None) unless around is an Around."""
    if not isinstance(around, Around):
        raise BadAround(None)


def whole_of(piece, around):
    """The whole piece that makes the boxes and does the ending around the piece."""
    _check_fit(piece, around)
    return _whole(piece, around)


def ended_around(piece, around, steps):
    """What comes of the whole piece within so many steps."""
    _check_fit(piece, around)
    check_steps(steps)
    return evaluated(_whole(piece, around), steps)


def _check_fit(piece, around):
    check_piece(piece)
    check_around(around)
    if piece.size != around.size or piece.names != around.names or piece.kind != around.kind:
        raise BadPiece("kind")


def _whole(piece, around):
    bodies = {word: body_of(function) for word, function in around.functions.items()}
    inner = replaced(measured(piece.term), bodies)
    ended = replaced(measured(around.ending), {"it": inner})
    if ended.nodes + len(around.boxes) > MOST_WHOLE_NODES:
        raise TooMany(MOST_WHOLE_NODES)
    term = ended.term
    for word, number in reversed(list(around.boxes)):
        term = ("new", word, number, term)
    return made_piece(piece.size, {}, term, "do")
