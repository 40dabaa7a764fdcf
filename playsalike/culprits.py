"""Mixed books, and the least lots of entries that make a word do something else."""

from itertools import combinations

from playsalike.books import Book, check_book, entry_function, functions_of
from playsalike.edits import compared_pieces
from playsalike.errors import BadBook, BadLot, TooMany
from playsalike.kinds import is_ascending, is_list
from playsalike.links import linked
from playsalike.plays import machine_of


def mixed(book, other, lot):
    """The book that has the functions of the words of lot from other, all others from book."""
    _check_alike(book, other)
    functions = functions_of(book)
    if not _is_lot(functions, lot):
        raise BadLot("an ascending list of words of entries is wanted")
    others = functions_of(other)
    entries = [(word, others[word] if word in lot else functions[word]) for word in functions]
    return Book(book.size, tuple(entries))


def _check_alike(book, other):
    check_book(book)
    check_book(other)
    if book.size != other.size or list(functions_of(book)) != list(functions_of(other)):
        raise BadBook("words")


def _is_lot(functions, lot):
    if not is_list(lot) or not all([isinstance(word, str) and word in functions for word in lot]):
        return False
    return is_ascending(lot)


def culprits(book, other, word):
    """The least of the fewest words whose functions from other make this word do something else."""
    _check_alike(book, other)
    entry_function(book, word)
    piece = linked(book, word)
    machine_of(piece)
    functions = functions_of(book)
    others = functions_of(other)
    # With the same function in both books a word is in no least lot.
    unlike = [one for one in functions if functions[one] != others[one]]
    for many in range(1, len(unlike) + 1):
        for lot in combinations(unlike, many):
            if _is_changed(piece, book, other, lot, word):
                return list(lot)
    return None


def _is_changed(piece, book, other, lot, word):
    """Whether the mixed book of this lot is one in which the word does not do what piece does."""
    try:
        return compared_pieces(piece, linked(mixed(book, other, lot), word)) != "same"
    except (BadBook, TooMany):
        return False
