"""All plays that the moves of a piece let, by length: how many, and which ones."""

from playsalike.errors import BadNumber, TooMany
from playsalike.heardmoves import heard_moves, told_moves
from playsalike.kinds import is_within
from playsalike.pieces import check_piece
from playsalike.playing import BREAK, FIRST, can_follow, waits_behind

MOST_LENGTH = 60
MOST_PLAYS = 2000


class Counts:
    """How many ways lead on by so many moves, for numbers of moves from 0 on.

    middles: rows of questions to names, each with all that stands up to its answer. broken: rows
    of moves from a turn of the piece up to a break. asked: for each name that can be called, how
    many questions to its arguments there are at a time; talks: rows of such with their answers;
    answered: how many answers the name has.
    """

    def __init__(self, piece, most):
        self.size = piece.size
        self.middles = []
        self.broken = []
        called = [sort for sort in piece.names.values() if sort[1] != "box"]
        self.boxes = len(piece.names) - len(called)
        self.answered = [self.many_answers(given) for taken, given in called]
        self.asked = [sum([self.questions(sort) for sort in taken]) for taken, given in called]
        self.exchanges = [sum([self.both_ways(sort) for sort in taken]) for taken, given in called]
        self.talks = [[] for sort in called]
        for length in range(most + 1):
            self._count(length)

    def many_answers(self, plain):
        """How many answers there are of what has this plain sort."""
        return 1 if plain == "do" else self.size

    def questions(self, plain):
        """How many questions there are to an argument of this plain sort."""
        return 1 + self.size if plain == "box" else 1

    def both_ways(self, plain):
        """How many pairs of a question to an argument of this plain sort and its answer."""
        return 2 * self.size if plain == "box" else self.many_answers(plain)

    def _count(self, length):
        self.talks = [talk + [self._count_talk(exchanges, talk, length)]
                      for exchanges, talk in zip(self.exchanges, self.talks)]
        self.middles.append(self._count_middles(length))
        self.broken.append(self._count_broken(length))

    def _count_talk(self, exchanges, talk, length):
        """An exchange is a question, a middle and an answer; what stands behind it is shorter."""
        if length == 0:
            return 1
        return exchanges * sum([self.middles[inner] * talk[length - 2 - inner]
                                for inner in range(length - 1)])

    def _count_middles(self, length):
        if length == 0:
            return 1
        return sum([self._count_calls(inner) * self.middles[length - 2 - inner]
                    for inner in range(length - 1)])

    def _count_calls(self, inner):
        """How many questions to names with their answers, so many moves being between them."""
        found = 2 * self.size * self.boxes if inner == 0 else 0
        return found + sum([many * talk[inner] for many, talk in zip(self.answered, self.talks)])

    def _count_broken(self, length):
        """A middle; then a break, or a call, a talk, a question, and then broken within this."""
        if length == 0:
            return 0
        found = self.middles[length - 1]
        for ahead in range(length - 1):
            for inner in range(length - 1 - ahead):
                further = self.broken[length - 2 - ahead - inner]
                found += self.middles[ahead] * further * sum(
                    [many * talk[inner] for many, talk in zip(self.asked, self.talks)])
        return found


def count_plays(piece, length):
    """The pair of how many unbroken and broken plays of just so many moves there can be."""
    check_piece(piece)
    if not is_within(length, 0, MOST_LENGTH):
        raise BadNumber("length")
    if length < 2:
        return (0, 0)
    counts = Counts(piece, length)
    return (counts.many_answers(piece.kind) * counts.middles[length - 2], counts.broken[length - 1])


def all_plays(piece, length):
    """The list of all plays of just so many moves that there can be, in their order."""
    unbroken, broken = count_plays(piece, length)
    if unbroken + broken > MOST_PLAYS:
        raise TooMany(MOST_PLAYS)
    if unbroken + broken == 0:
        return []
    turns = (told_moves(piece), heard_moves(piece))
    begun = [([FIRST], [FIRST])]
    for left in reversed(range(length - 1)):
        begun = [(row + [move], waits_behind(waits, move)) for row, waits in begun
                 for move in _moves_on(turns[left % 2], waits, left)]
    return [row for row, waits in begun]


def _moves_on(moves, waits, left):
    """The moves behind which a play may come to its end in just so many more moves.

    As long as it is not answered a play can be broken at the next turn of the piece, or go on:
    where it is to have more than two moves there is some name.
    """
    can_stand = [move for move in moves if can_follow(waits, move)]
    if left > 0:
        return [move for move in can_stand if move != BREAK and len(waits_behind(waits, move)) > 0]
    return [move for move in can_stand if move == BREAK or len(waits_behind(waits, move)) == 0]
