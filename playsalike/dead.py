"""Names that are never asked, and dead places: where it makes no difference what stands there."""

from playsalike.errors import TooMany
from playsalike.pieces import check_piece, made_piece
from playsalike.plays import asked_names
from playsalike.scopes import all_own_words, parts_with_words
from playsalike.shapes import free_words, has_claim, plain_sort, with_part_along
from playsalike.sorts import MOST_NAMES
from playsalike.words import fresh_word


def unasked(piece):
    """The ascending list of the names no move of which stands in any ended play."""
    check_piece(piece)
    asked = asked_names(piece)
    return [word for word in piece.names if word not in asked]


def dead_places(piece):
    """The ascending list of the places of plain parts at which a name of their own is never asked."""
    check_piece(piece)
    if len(piece.names) == MOST_NAMES:
        raise TooMany(MOST_NAMES)
    word = fresh_word({**piece.names, **all_own_words(piece.term)})
    return [part.at for part in parts_with_words(piece.names, piece.term)
            if _is_plain(part) and word not in asked_names(_with_name(piece, part, word))]


def _is_plain(part):
    """Whether a part is a number or a deed without a claim, and without words given around it."""
    if plain_sort(part.names, part.term) == "box" or has_claim(part.term):
        return False
    return not any([word in part.own for word in free_words(part.term)])


def _with_name(piece, part, word):
    """The piece with this name, of the part's sort, in the place of the part."""
    names = {**piece.names, word: ((), plain_sort(part.names, part.term))}
    term = with_part_along(piece.term, part.at, ("name", word, ()))
    return made_piece(piece.size, names, term, piece.kind)
