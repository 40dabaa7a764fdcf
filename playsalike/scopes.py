"""Parts of terms with what words mean there, and which words the terms around them give."""

from playsalike.shapes import given_word, names_within, part_along, part_paths


class Part:
    """A part of a term at a place: what words mean there, and the words given around it.

    own has as its keys the words that "new" and "made" terms of the whole term give there.
    """

    def __init__(self, at, term, names, own):
        self.at = at
        self.term = term
        self.names = names
        self.own = own


def parts_with_words(names, term):
    """The list of all parts of a term by ascending places, itself ahead; names are for the whole."""
    found = []
    waiting = [Part((), term, names, {})]
    while len(waiting) > 0:
        part = waiting.pop()
        found.append(part)
        waiting.extend(_inner_parts(part)[::-1])
    return found


def _inner_parts(part):
    inner = []
    for which, path in enumerate(part_paths(part.term)):
        word = given_word(part.term, which)
        own = part.own if word is None else {**part.own, word: True}
        names = names_within(part.names, part.term, which)
        inner.append(Part(part.at + path, part_along(part.term, path), names, own))
    return inner


def all_own_words(term):
    """The dict whose keys are the words that "new" and "made" terms of a term give."""
    found = {}
    for part in parts_with_words({}, term):
        for word in part.own:
            found[word] = True
    return found
