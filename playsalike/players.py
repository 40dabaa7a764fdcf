"""Terms that are played: what can be heard, what is told then, and where they wait."""

from playsalike.heardmoves import answers_of, questions_to
from playsalike.pieces import plan_of_function, plan_of_piece
from playsalike.plans import place_of, uses_around
from playsalike.playing import BREAK
from playsalike.working import Work, go_on, gone_through


class Player:
    """A term of some plain sort over names, which is worked out as far as what is heard lets it.

    Its word tells how it is: new, waits, ended, broken or lost. If it waits, the node tells
    where, and awaits what for: the answer of a call, a get or a set.
    """

    def __init__(self, size, kind, plan):
        self.work = Work(size, plan, {}, None)
        self.kind = kind
        self.word = "new"
        self.node = 0
        self.awaits = None

    def can_hear(self):
        """The moves that can come."""
        if self.word == "new":
            return first_moves(self.kind, self.work.size)
        if self.word == "waits":
            return moves_awaited(self.work, self.node, self.awaits)
        return []

    def hear(self, move):
        """Goes on behind a move that can come: the move that is told then, None if it is lost."""
        deed, node, worth = begun_by(self.work.plan, self.node, self.awaits, move)
        found = gone_through(self.work, go_on(self.work, deed, node, worth))
        self.word = word_of(found)
        self.node = found[1]
        told = move_told(self.work.plan, self.kind, found)
        self.awaits = awaited_behind(told) if self.word == "waits" else None
        return told

    def twin(self):
        """A player of its own that has come as far."""
        other = Player(self.work.size, self.kind, self.work.plan)
        other.work.kept = dict(self.work.kept)
        other.work.steps = self.work.steps
        other.word = self.word
        other.node = self.node
        other.awaits = self.awaits
        return other

    def standing(self):
        """A list that tells where it waits and what it keeps: what it does hangs on this alone."""
        return [self.word, self.node, self.awaits, dict(self.work.kept)]

    def spots(self):
        """The places of the nodes that wait, the outermost first."""
        if self.word != "waits":
            return []
        plan = self.work.plan
        nodes = uses_around(plan, self.node) + [self.node]
        return [place_of(plan, node) for node in nodes]

    def boxes(self):
        """The ascending dict from the places of new boxes to what is in them."""
        if self.word != "waits":
            return {}
        plan = self.work.plan
        found = [(place_of(plan, node), number) for node, number in self.work.kept.items()
                 if plan.terms[node][0] == "new"]
        return dict(sorted(found))


def player_of_piece(piece):
    """A player of the term of the piece."""
    return Player(piece.size, piece.kind, plan_of_piece(piece))


def player_of_function(function):
    """A player of the term of the function."""
    return Player(function.size, function.kind[1], plan_of_function(function))


def first_moves(kind, size):
    """The moves with which a play of a term of this plain sort begins."""
    return questions_to(kind, "ask", (), size)


def moves_awaited(work, node, awaits):
    """The moves that can come while a node waits for the answer of a call, a get or a set."""
    word = work.plan.terms[node][1]
    if awaits == "get":
        return [("value", word, number) for number in range(work.size)]
    if awaits == "set":
        return [("kept", word)]
    taken, given = work.plan.names[word]
    moves = answers_of(given, (word,), work.size)
    for at, plain in enumerate(taken):
        moves.extend(questions_to(plain, "ask", (word, at), work.size))
    return moves


def begun_by(plan, node, awaits, move):
    """With what a term goes on if this move is heard where the node awaits something."""
    if awaits is None:
        return ("begin", 0, move[1] if move[0] == "set" else None)
    if move[0] in ("ask", "get", "set"):
        return ("begin", plan.parts[node][move[2]], move[3] if move[0] == "set" else None)
    return ("done", node, move[2] if move[0] in ("num", "value") else None)


def word_of(found):
    """How a player is behind what was found."""
    if found[0] in ("asks", "answers"):
        return "waits"
    return found[0]


def move_told(plan, kind, found):
    """The move that tells what was found, None if it is lost."""
    deed, node, worth = found
    if deed == "asks":
        return _question(plan.terms[node][1], plan.names, worth)
    if deed == "answers":
        word = plan.terms[node][1]
        at, number = worth
        return answer_told(plan.names[word][0][at], (word, at), number)
    if deed == "ended":
        return last_told(kind, worth)
    return BREAK if deed == "broken" else None


def _question(word, names, worth):
    if names[word][1] != "box":
        return ("call", word)
    return ("get", word) if worth is None else ("set", word, worth)


def answer_told(plain, whose, number):
    """The answer for an argument of this plain sort, or of a parameter."""
    if plain == "num":
        return ("num",) + whose + (number,)
    if plain == "do":
        return ("did",) + whose
    return ("kept",) + whose if number is None else ("value",) + whose + (number,)


def last_told(kind, number):
    """The answer of the whole term."""
    return ("do",) if kind == "do" else answer_told(kind, (), number)


def awaited_behind(told):
    """What a told move waits for: the answer of a get, a set, or, also behind answers, a call."""
    return told[0] if told[0] in ("get", "set") else "call"
