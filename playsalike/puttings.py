"""Putting terms in the place of names, words renamed so that no name is taken.

Terms may be nested deeper than calls can be: so what is still to do is kept in lists.
"""

from playsalike.shapes import given_word, parts_of, with_given_word, with_parts
from playsalike.words import fresh_word


class Measured:
    """A term with its parts, the words that stand free in it, its nodes and its depth."""

    def __init__(self, term, parts):
        self.term = term
        self.parts = parts
        self.free = _free_of(term, parts)
        self.nodes = 1 + sum([part.nodes for part in parts])
        self.depth = 1 + max([part.depth for part in parts], default=0)


class Body:
    """What stands for a name: a measured term and the words of its parameters."""

    def __init__(self, params, inner):
        self.params = params
        self.inner = inner
        self.free = [word for word in inner.free if word not in params]


def _free_of(term, parts):
    free = {}
    if term[0] == "name":
        free[term[1]] = True
    for number, part in enumerate(parts):
        given = given_word(term, number)
        for word in part.free:
            if word != given:
                free[word] = True
    return sorted(free)


def measured(term):
    """The term, measured."""
    jobs = [("enter", term)]
    done = []
    while len(jobs) > 0:
        deed, part = jobs.pop()
        if deed == "leave":
            done.append(Measured(part, _taken_last(done, len(parts_of(part)))))
        else:
            jobs.append(("leave", part))
            jobs.extend([("enter", inner) for inner in parts_of(part)[::-1]])
    return done[0]


def replaced(whole, table):
    """The measured term with each free use of a word of table exchanged for what this tells.

    The table leads from words to a Body, or to a Measured term for a name without arguments.
    What is put in is never looked through again.
    """
    jobs = [("enter", whole, table)]
    done = []
    while len(jobs) > 0:
        deed, thing, told = jobs.pop()
        if deed == "enter":
            _enter(jobs, done, thing, told)
        elif deed == "leave":
            parts = _taken_last(done, told)
            done.append(Measured(with_parts(thing, [part.term for part in parts]), parts))
        else:
            given = _taken_last(done, told)
            inner = {word: given[at] for at, word in enumerate(thing.params)}
            jobs.append(("enter", thing.inner, inner))
    return done[0]


def _enter(jobs, done, node, table):
    if not any([word in table for word in node.free]):
        done.append(node)
        return
    term, parts = node.term, node.parts
    stands = table.get(term[1]) if term[0] == "name" else None
    if isinstance(stands, Measured):
        done.append(stands)
        return
    tables = [table for part in parts]
    word = given_word(term, len(parts) - 1)
    if stands is not None:
        jobs.append(("use", stands, len(parts)))
    elif word is None:
        jobs.append(("leave", term, len(parts)))
    else:
        word, tables[-1] = _within(word, parts[-1], table)
        jobs.append(("leave", with_given_word(term, word), len(parts)))
    for at in reversed(range(len(parts))):
        jobs.append(("enter", parts[at], tables[at]))


def _taken_last(done, many):
    """Takes the last so many of what is done away, and tells it."""
    start = len(done) - many
    taken = done[start:]
    del done[start:]
    return taken


def _within(word, part, table):
    """The word that a term gives within this part, and the table there."""
    inner = {name: table[name] for name in part.free if name in table and name != word}
    barred = {}
    for stands in inner.values():
        for name in stands.free:
            barred[name] = True
    if word not in barred:
        return word, inner
    for name in part.free:
        barred[name] = True
    fresh = fresh_word(barred)
    inner[word] = Measured(("name", fresh, ()), [])
    return fresh, inner
