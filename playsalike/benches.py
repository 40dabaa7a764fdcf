"""Workbenches: books that are changed deed by deed, taken back and done again, and asked."""

from playsalike.books import check_book
from playsalike.edits import compared, edited, is_edit
from playsalike.errors import BadBench, BadDeed, BadNumber, NotLet
from playsalike.kinds import is_within, is_word
from playsalike.questions import answered, is_question

MOST_NUMBER = 10 ** 9


class Stand:
    """What stands behind some deeds: the book, the questions, how many were asked, the functions.

    asked leads from numbers to the questions that are asked, functions from words to the list of
    those that they have had.
    """

    def __init__(self, book, asked, many, functions):
        self.book = book
        self.asked = asked
        self.many = many
        self.functions = functions


def first_stand(book):
    """What stands ahead of all deeds."""
    return Stand(book, {}, 0, {word: [function] for word, function in book.entries})


def stand_behind(stand, deed):
    """What stands behind a deed; NotLet if it cannot be done."""
    if deed[0] == "ask":
        asked = {**stand.asked, stand.many: deed[1]}
        return Stand(stand.book, asked, stand.many + 1, stand.functions)
    if deed[0] == "unask":
        if deed[1] not in stand.asked:
            raise NotLet("number")
        asked = {number: stand.asked[number] for number in stand.asked if number != deed[1]}
        return Stand(stand.book, asked, stand.many, stand.functions)
    functions = stand.functions
    if deed[0] == "back":
        book = edited(stand.book, ("put", deed[1], _version(stand, deed)))
    else:
        book = edited(stand.book, deed)
        if deed[0] == "put":
            functions = {**functions, deed[1]: functions.get(deed[1], []) + [deed[2]]}
    return Stand(book, stand.asked, stand.many, functions)


def _version(stand, deed):
    """The function to which a deed goes back."""
    functions = stand.functions.get(deed[1], [])
    if deed[2] >= len(functions):
        raise NotLet("number")
    return functions[deed[2]]


def is_deed(thing):
    """Whether thing is a deed."""
    if is_edit(thing):
        return True
    if not isinstance(thing, tuple) or len(thing) == 0 or not isinstance(thing[0], str):
        return False
    if thing[0] == "ask":
        return len(thing) == 2 and is_question(thing[1])
    if thing[0] == "unask":
        return len(thing) == 2 and is_within(thing[1], 0, MOST_NUMBER)
    if thing[0] != "back" or len(thing) != 3:
        return False
    return is_word(thing[1]) and is_within(thing[2], 0, MOST_NUMBER)


def check_deed(deed):
    """Raises BadDeed unless deed is a deed."""
    if not is_deed(deed):
        raise BadDeed("no deed")


class Bench:
    """A workbench: first and book are the book ahead of all deeds, and the present one."""

    def __init__(self, book):
        check_book(book)
        self.first = book
        self.book = book
        self._stands = [first_stand(book)]
        self._done = []
        self._taken_back = []

    def __eq__(self, other):
        return (isinstance(other, Bench) and self.first == other.first
                and self._done == other._done and self._taken_back == other._taken_back)

    def _go_to(self, stands, done, taken_back):
        self._stands = stands
        self._done = done
        self._taken_back = taken_back
        self.book = stands[-1].book

    def twin(self):
        """A bench of its own that has come as far."""
        other = Bench(self.first)
        other._go_to(self._stands, self._done, self._taken_back)
        return other

    def do(self, deed):
        """Does a deed; what was taken back is dropped."""
        check_deed(deed)
        stand = stand_behind(self._stands[-1], deed)
        self._go_to(self._stands + [stand], self._done + [deed], [])

    def undo(self):
        """Takes the last present deed back."""
        if len(self._done) == 0:
            raise NotLet("undo")
        self._go_to(self._stands[:-1], self._done[:-1], [self._done[-1]] + self._taken_back)

    def redo(self):
        """Does the deed again that was taken back last."""
        if len(self._taken_back) == 0:
            raise NotLet("redo")
        deed = self._taken_back[0]
        stand = stand_behind(self._stands[-1], deed)
        self._go_to(self._stands + [stand], self._done + [deed], self._taken_back[1:])

    def questions(self):
        """The list of pairs of a number and a question that is asked, ascending."""
        return list(self._stands[-1].asked.items())

    def answers(self):
        """The list of pairs of a number and the answer to its question, ascending."""
        return [(number, answered(self.book, question)) for number, question in self.questions()]

    def versions(self, word):
        """The list of the functions that a word has had, [] for any other value."""
        return list(self._stands[-1].functions.get(word, [])) if is_word(word) else []

    def deeds(self):
        """The list of the present deeds."""
        return list(self._done)

    def undone(self):
        """The list of the deeds that were taken back, the one to be done again next first."""
        return list(self._taken_back)

    def what_if(self, deed):
        """What a deed would change: the pair of entries that compare unlike, and of unlike answers."""
        check_deed(deed)
        stand = self._stands[-1]
        behind = stand_behind(stand, deed)
        changes = compared(stand.book, behind.book)
        answers = []
        for number, question in stand.asked.items():
            if number in behind.asked:
                answer = answered(stand.book, question)
                answer_behind = answered(behind.book, question)
                if answer != answer_behind:
                    answers.append((number, answer, answer_behind))
        return ({word: told for word, told in changes.items() if told != "same"}, answers)

    def since(self, number):
        """How the book behind the first so many deeds compares with the present one."""
        if not is_within(number, 0, len(self._done)):
            raise BadNumber("number")
        return compared(self._stands[number].book, self.book)


def check_bench(bench):
    """Raises BadBench unless bench is a Bench."""
    if not isinstance(bench, Bench):
        raise BadBench("a Bench is wanted")
