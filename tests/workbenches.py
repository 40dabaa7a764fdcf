"""Workbenches by hand, and a second plain way to what they keep."""

from libraries import INC, UNARY, changed_book, fun
from playsalike.benches import Bench
from playsalike.books import Book
from playsalike.edits import edited
from playsalike.errors import NotLet
from samples import name, number

ONE, ZERO, NEVER = fun(number(1)), fun(number(0)), fun(("never", "num"))
CALLS = fun(name("inc", number(1)), {"inc": UNARY})
FIRST = Book(2, (("a", CALLS), ("b", ZERO), ("inc", INC)))
SAME, ENDS = ("same", "a", "b"), ("ends", "a")
SLOW = fun(("sum", name("p"), name("p")), {}, (("p", "num"),))


def bench_of(*deeds, book=FIRST):
    bench = Bench(book)
    for deed in deeds:
        bench.do(deed)
    return bench


class Model:
    """A second way: all is worked out anew of the present deeds."""

    def __init__(self, book):
        self.first = book
        self.deeds = []
        self.undone = []

    def state(self, deeds=None):
        book, asked, count, versions = self.first, {}, 0, {word: [function] for word, function in self.first.entries}
        for deed in self.deeds if deeds is None else deeds:
            if deed[0] == "ask":
                asked[count] = deed[1]
                count += 1
            elif deed[0] == "unask":
                del asked[deed[1]]
            elif deed[0] == "back":
                book = edited(book, ("put", deed[1], versions[deed[1]][deed[2]]))
            else:
                book = edited(book, deed)
                if deed[0] == "put":
                    versions.setdefault(deed[1], []).append(deed[2])
        return book, asked, versions

    def why(self, deed):
        """Why a deed cannot be done, None if it can."""
        _, asked, versions = self.state()
        if deed[0] == "unask" and deed[1] not in asked or deed[0] == "back" and deed[2] >= len(versions.get(deed[1], [])):
            return "number"
        try:
            self.state(self.deeds + [deed])
        except NotLet as error:
            return error.why
        return None


def random_deed(rng, model, sorts):
    """A deed, some of which cannot be done."""
    word = rng.choice("abcd")
    way = rng.choice(("put", "put", "drop", "ask", "ask", "unask", "back"))
    if way == "put":
        full = Book(2, model.first.entries)
        return ("put", word, dict(changed_book(rng, full, sorts).entries).get(word, ONE))
    if way == "drop":
        return ("drop", word)
    if way == "ask":
        return ("ask", rng.choice([("same", word, "a"), ("less", "b", word), ("holds", word), ("ends", word)]))
    if way == "unask":
        return ("unask", rng.randint(0, 3))
    return ("back", word, rng.randint(0, 2))
