"""A desk: a workbench that is told what to do, and asked, line by line."""

from playsalike.benches import Bench
from playsalike.benchlogs import deed_of_line, journal
from playsalike.books import functions_of, open_names
from playsalike.culprits import culprits
from playsalike.edits import compared
from playsalike.errors import BadLine, NotLet, TooMany


class Desk:
    """A desk: its bench is a new one of the book."""

    def __init__(self, book):
        self.bench = Bench(book)

    def say(self, line):
        """The answer to a line, a tuple of strings; what is not let, or too much, is not done."""
        if not isinstance(line, str):
            return ("what",)
        try:
            told = _answer(self.bench, line)
        except BadLine:
            return ("what",)
        except NotLet as error:
            return ("cannot " + error.why,)
        except TooMany:
            return ("too many",)
        return tuple(told) if len(told) > 0 else ("nothing",)


def _answer(bench, line):
    """The list of strings that answer a line; BadLine if it is none that a desk knows."""
    if line in QUESTIONS:
        action = QUESTIONS[line]
        return action(bench)
    if line.startswith("why "):
        return _why(bench, line[4:])
    if line.startswith("if "):
        return _what_if(bench, deed_of_line(line[3:]))
    return _done(bench, line)


def _done(bench, line):
    """Does a deed, or takes one back, or does it again, if it can be told what changes by it."""
    tried = bench.twin()
    _do(tried, line)
    changes = compared(bench.book, tried.book)
    _do(bench, line)
    return _change_lines(changes)


def _do(bench, line):
    if line == "undo":
        bench.undo()
    elif line == "redo":
        bench.redo()
    else:
        bench.do(deed_of_line(line))


def _change_lines(changes):
    """A line for each entry that is not the same."""
    return [word + " " + told for word, told in changes.items() if told != "same"]


def _what_if(bench, deed):
    changes, answers = bench.what_if(deed)
    return _change_lines(changes) + [f"{number} {_answer_text(now)} > {_answer_text(behind)}"
                                     for number, now, behind in answers]


def _answer_text(answer):
    """The text of an answer: yes, no, a word and a number, or the word."""
    if isinstance(answer, bool):
        return "yes" if answer else "no"
    return answer if isinstance(answer, str) else f"{answer[0]} {answer[1]}"


def _why(bench, word):
    """The words of the culprits of what an entry of the first and of the present book does now."""
    functions = functions_of(bench.first)
    present = functions_of(bench.book)
    if word not in functions or word not in present:
        raise BadLine(None)
    if list(functions) != list(present):
        return ["other"]
    found = culprits(bench.first, bench.book, word)
    return [] if found is None else found


def _journal(bench):
    return journal(bench)


def _entries(bench):
    return list(functions_of(bench.book))


def _open(bench):
    return list(open_names(bench.book))


def _questions(bench):
    return [f"{number} " + " ".join(question) for number, question in bench.questions()]


def _answers(bench):
    return [f"{number} {_answer_text(answer)}" for number, answer in bench.answers()]


QUESTIONS = {
    "entries": _entries,
    "open": _open,
    "questions": _questions,
    "answers": _answers,
    "journal": _journal,
}
