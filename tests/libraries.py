"""Books by hand and by chance."""

from meanings import random_function
from playsalike.books import Book
from playsalike.errors import BadBook
from playsalike.pieces import Function
from samples import DO, NUM, name, number

def fun(term, names=None, params=(), size=2):
    return Function(size, names or {}, params, term)


def use(*words):
    """A function of sort num that has these numbers as names."""
    return fun(number(0), {word: NUM for word in words})


UNARY, ON_DEEDS = (("num",), "num"), (("do",), "do")
SORTS = [NUM, NUM, UNARY, DO, ON_DEEDS]
INC = fun(("sum", name("p"), number(1)), {}, (("p", "num"),))
TWICE = fun(name("inc", name("inc", number(1))), {"inc": UNARY})
OPEN = {"x": NUM, "go": DO}


def random_sorts(rng, words):
    return {word: rng.choice(SORTS) for word in words}


def random_entry(rng, size, sorts, word, depth=3, claims=True):
    """A function for the word that uses open names and words behind it."""
    names = {**OPEN, **{other: sort for other, sort in sorts.items() if other > word}}
    return random_function(rng, size, sorts[word], names, depth, claims, ("p", "q", "r"))


def random_book(rng, size=2, words="abcd", sorts=None, depth=3, claims=True):
    told = sorts or random_sorts(rng, words)
    while True:
        entries = tuple((word, random_entry(rng, size, told, word, depth, claims)) for word in sorted(told))
        try:
            return Book(size, entries)
        except BadBook:
            continue


def changed_book(rng, book, sorts, many=1, depth=3, claims=True):
    """The book with new functions of the same sorts for some entries."""
    while True:
        table = dict(book.entries)
        for word in rng.sample(sorted(table), many):
            table[word] = random_entry(rng, book.size, sorts, word, depth, claims)
        try:
            return Book(book.size, tuple(sorted(table.items(), key=lambda pair: pair[0])))
        except BadBook:
            continue
