"""Edits of books, what they reach, and books compared."""

from playsalike.alike import first_more, is_kind
from playsalike.books import Book, check_book, functions_of, uses
from playsalike.errors import BadBook, BadEdit, NotLet
from playsalike.kinds import is_word
from playsalike.links import linked
from playsalike.pieces import Function
from playsalike.plays import machine_of
from playsalike.sorts import ascending


def is_edit(thing):
    """Whether thing is an edit."""
    if not isinstance(thing, tuple) or len(thing) not in (2, 3):
        return False
    if not isinstance(thing[0], str) or not is_word(thing[1]):
        return False
    if len(thing) == 2:
        return thing[0] == "drop"
    return thing[0] == "put" and isinstance(thing[2], Function)


def edited(book, edit):
    """The book behind the edit; NotLet tells why it cannot be done."""
    check_book(book)
    if not is_edit(edit):
        raise BadEdit("no edit")
    functions = functions_of(book)
    if edit[0] == "put":
        functions[edit[1]] = edit[2]
    elif edit[1] in functions:
        del functions[edit[1]]
    else:
        raise NotLet("word")
    try:
        return Book(book.size, tuple(list(ascending(functions).items())))
    except BadBook as error:
        raise NotLet(error.part) from None


def reached(book, edit):
    """The ascending list of the entries behind the edit that are its word, or use it or did."""
    behind = edited(book, edit)
    return [word for word in functions_of(behind)
            if word == edit[1] or _is_used(behind, word, edit[1]) or _is_used(book, word, edit[1])]


def _is_used(book, word, other):
    """Whether word is an entry of the book that uses the other one."""
    return word in functions_of(book) and other in uses(book, word)


def compared(book, other):
    """The ascending dict from the entries of one or both to how their linked pieces compare."""
    check_book(book)
    check_book(other)
    functions = functions_of(book)
    others = functions_of(other)
    found = {word: "gone" if word in functions else "new" for word in {**functions, **others}}
    common = [word for word in functions if word in others]
    # All are linked ahead of the machines: what is too great for being linked is told first.
    pairs = [(word, linked(book, word), linked(other, word)) for word in common]
    for word, piece, behind in pairs:
        found[word] = compared_pieces(piece, behind)
    return ascending(found)


def compared_pieces(piece, behind):
    """How a piece compares with the one behind: other, same, less, more or unlike."""
    if not is_kind(piece, behind):
        return "other"
    machine = machine_of(piece)
    machine_behind = machine_of(behind)
    if machine == machine_behind:
        return "same"
    if first_more(machine_behind, machine) is None:
        return "less"
    return "more" if first_more(machine, machine_behind) is None else "unlike"
