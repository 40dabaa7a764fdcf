"""Books: pieces of a program that use one another by their words."""

from playsalike.errors import BadBook, BadWord
from playsalike.kinds import check_size, is_ascending, is_pair, is_word
from playsalike.pieces import Function
from playsalike.sorts import MOST_NAMES, ascending

MOST_ENTRIES = 6


class Book:
    """A book of entries: pairs of a word and the function that it means."""

    def __init__(self, size, entries):
        check_size(size)
        if not _is_entries(size, entries):
            raise BadBook("entries")
        functions = {word: function for word, function in entries}
        if not _has_like_sorts(functions):
            raise BadBook("sorts")
        if not _has_own_params(functions):
            raise BadBook("params")
        if not all([_is_few(functions, word) for word in functions]):
            raise BadBook("many")
        if any([word in _used(functions, word) for word in functions]):
            raise BadBook("ring")
        self.size = size
        self.entries = entries

    def __eq__(self, other):
        return (isinstance(other, Book) and self.size == other.size
                and self.entries == other.entries)


def _is_entries(size, entries):
    if not isinstance(entries, tuple) or len(entries) > MOST_ENTRIES:
        return False
    if not all([is_pair(entry) and is_word(entry[0]) for entry in entries]):
        return False
    if not is_ascending([word for word, function in entries]):
        return False
    return all([_is_entry(size, function) for word, function in entries])


def _is_entry(size, function):
    if not isinstance(function, Function) or function.size != size:
        return False
    return function.kind[1] in ("num", "do")


def _has_like_sorts(functions):
    sorts = {word: function.kind for word, function in functions.items()}
    for function in functions.values():
        for name, sort in function.names.items():
            if sorts.setdefault(name, sort) != sort:
                return False
    return True


def _has_own_params(functions):
    names = _all_names(functions)
    for function in functions.values():
        if any([word in names or word in functions for word, sort in function.params]):
            return False
    return True


def _all_names(functions):
    """The sorts of all names of the functions."""
    found = {}
    for function in functions.values():
        for name, sort in function.names.items():
            found[name] = sort
    return found


def _is_few(functions, word):
    function = functions[word]
    used = [name for name in function.names if name in functions]
    return len(used) + len(function.params) + len(_not_entries(functions)) <= MOST_NAMES


def _not_entries(functions):
    names = _all_names(functions)
    return {name: names[name] for name in names if name not in functions}


def _used(functions, word):
    """The ascending list of the entries that the function of word uses, straight or by others."""
    found = {}
    waiting = [word]
    while len(waiting) > 0:
        function = functions[waiting.pop()]
        for name in function.names:
            if name in functions and name not in found:
                found[name] = True
                waiting.append(name)
    return sorted(found)


def check_book(book):
    """Raises BadBook(None) unless book is a Book."""
    if not isinstance(book, Book):
        raise BadBook(None)


def functions_of(book):
    """The dict from the words of the entries to their functions."""
    return {word: function for word, function in book.entries}


def entry_function(book, word):
    """The function of an entry; BadWord if there is none."""
    functions = functions_of(book)
    if not isinstance(word, str) or word not in functions:
        raise BadWord("no entry has this word")
    return functions[word]


def open_names(book):
    """The ascending dict from the open names of the book to their sorts."""
    check_book(book)
    return ascending(_not_entries(functions_of(book)))


def uses(book, word):
    """The ascending list of the entries that this one uses, straight or by others."""
    check_book(book)
    entry_function(book, word)
    return _used(functions_of(book), word)
