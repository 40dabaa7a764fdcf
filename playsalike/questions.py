"""Questions about the entries of books."""

from playsalike.alike import less, same
from playsalike.books import check_book, functions_of
from playsalike.claims import is_safe
from playsalike.errors import BadQuestion
from playsalike.kinds import is_word
from playsalike.links import linked
from playsalike.outcomes import outcome

# How many words stand behind the word of each question.
FORMS = {"same": 2, "less": 2, "holds": 1, "ends": 1}


def is_question(thing):
    """Whether thing is a question."""
    if not isinstance(thing, tuple) or len(thing) == 0 or not isinstance(thing[0], str):
        return False
    if thing[0] not in FORMS or len(thing) != FORMS[thing[0]] + 1:
        return False
    return all([is_word(word) for word in thing[1:]])


def answered(book, question):
    """The answer to a question about a book: True, False, a pair, or a word."""
    check_book(book)
    if not is_question(question):
        raise BadQuestion("no question")
    functions = functions_of(book)
    if not all([word in functions for word in question[1:]]):
        return "lacks"
    if question[0] in ("same", "less"):
        return _held_together(book, question)
    piece = linked(book, question[1])
    if question[0] == "holds":
        return is_safe(piece)
    return outcome(piece) if len(piece.names) == 0 else "other"


def _held_together(book, question):
    """The answer of a question about two entries."""
    asked, word, other = question
    functions = functions_of(book)
    if functions[word].params != functions[other].params or functions[word].kind != functions[other].kind:
        return "other"
    piece = linked(book, word)
    behind = linked(book, other)
    return same(piece, behind) if asked == "same" else less(piece, behind)
