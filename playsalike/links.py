"""Entries of books as pieces, open or with all entries that they use put in."""

from playsalike.books import check_book, entry_function, functions_of, open_names
from playsalike.pieces import made_function, made_piece, names_of_params, put_in


def open_piece(book, word):
    """The piece of the entry's term: its open names, the entries it names, its parameters."""
    check_book(book)
    function = entry_function(book, word)
    names = open_names(book)
    for name in _entries_named(book, function):
        names[name] = function.names[name]
    names = {**names, **names_of_params(function.params)}
    return made_piece(book.size, names, function.term, function.kind[1])


def linked(book, word):
    """The piece of the entry with the linked terms of the entries that it names put in."""
    piece = open_piece(book, word)
    for name in _entries_named(book, entry_function(book, word)):
        piece = put_in(piece, name, _linked_function(book, name))
    return piece


def _linked_function(book, word):
    function = entry_function(book, word)
    piece = linked(book, word)
    names = open_names(book)
    return made_function(book.size, names, function.params, piece.term, function.kind)


def _entries_named(book, function):
    functions = functions_of(book)
    return sorted([name for name in function.names if name in functions])
