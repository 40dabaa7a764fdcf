"""A second plain way to programs around pieces: names are worked out where they were given, nothing is put in."""

import sys

from playsalike.heardmoves import heard_moves, told_moves
from playsalike.playing import ANSWERS, can_follow, waits_behind
from samples import TWOS, Broken, Spent


class Given:
    """What a word means: a term and the words around it, or a place that keeps a number, or a number."""

    def __init__(self, term=None, env=None, params=(), kept=None, own=False):
        self.term = term
        self.env = env
        self.params = params
        self.kept = kept
        self.own = own


class Surrounded:
    """Works a piece out in a program around it; counts all nodes, and those of the program around alone."""

    def __init__(self, piece, around, limit):
        self.size = piece.size
        self.limit = limit
        self.steps = 0
        self.own = 0
        boxes = {word: Given(kept=number) for word, number in around.boxes}
        names = {word: Given(function.term, boxes, [param for param, _ in function.params], own=True)
                 for word, function in around.functions.items()}
        self.ending = around.ending
        self.env = {**boxes, "it": Given(piece.term, names)}

    def told(self):
        """How it ends: do, broken, never (it came to a never), or on; and the nodes."""
        limit = sys.getrecursionlimit()
        sys.setrecursionlimit(20000)
        try:
            self.of(self.ending, self.env, True)
        except Broken:
            return "broken", self.own
        except Never:
            return "never", self.own
        except Spent:
            return "on", self.own
        finally:
            sys.setrecursionlimit(limit)
        return "do", self.own

    def step(self, own):
        if self.steps == self.limit:
            raise Spent()
        self.steps += 1
        self.own += own

    def use(self, term, env, own):
        """The term, the words and the owner that a use of a name stands for."""
        given = env[term[1]]
        args = {word: Given(arg, env, own=own) for word, arg in zip(given.params, term[2])}
        return given.term, {**given.env, **args}, given.own

    def of(self, term, env, own):
        word = term[0]
        if word == "name" and env[term[1]].kept is None:
            return self.of(*self.use(term, env, own))
        self.step(own)
        if word == "name":
            return env[term[1]].kept
        if word == "number":
            return term[1]
        if word == "skip":
            return None
        if word == "never":
            raise Never()
        if word in TWOS:
            first, second = self.of(term[1], env, own), self.of(term[2], env, own)
            return {"sum": (first + second) % self.size, "less": (first - second) % self.size,
                    "same": int(first == second), "below": int(first < second)}[word]
        if word == "not":
            return int(self.of(term[1], env, own) == 0)
        if word == "then":
            self.of(term[1], env, own)
            return self.of(term[2], env, own)
        if word == "if":
            return self.of(term[2] if self.of(term[1], env, own) else term[3], env, own)
        if word == "while":
            while self.of(term[1], env, own):
                self.of(term[2], env, own)
            return None
        if word == "get":
            return self.box(term[1], env, own, None)
        if word == "set":
            return self.box(term[1], env, own, self.of(term[2], env, own))
        if word == "new":
            return self.of(term[3], {**env, term[1]: Given(kept=term[2])}, own)
        assert word == "claim"
        if self.of(term[1], env, own) == 0:
            raise Broken()
        return None

    def box(self, term, env, own, worth):
        if term[0] == "name" and env[term[1]].kept is None:
            inner, there, whose = self.use(term, env, own)
            return self.box(inner, there, whose, worth)
        self.step(own)
        if term[0] == "name":
            if worth is not None:
                env[term[1]].kept = worth
            return env[term[1]].kept
        if worth is None:
            return self.of(term[1], env, own)
        return self.of(term[3], {**env, term[2]: Given(kept=worth)}, own)


class Never(Exception):
    """It has come to a never."""


def random_play(rng, piece, most, is_broken=False):
    """A row of at most so many moves that is_play lets for the kind of the piece; it asks much."""
    turns = (heard_moves(piece), told_moves(piece))
    row, waits = [("ask",)], [("ask",)]
    while waits:
        ends = len(row) + (0 if is_broken else len(waits)) > most - 2
        can = [move for move in turns[len(row) % 2] if can_follow(waits, move) and move != ("break",)]
        closing = [move for move in can if move[0] not in ANSWERS]
        opening = [move for move in can if move[0] in ANSWERS]
        if is_broken and ends and len(row) % 2 == 1:
            return row + [("break",)]
        if ends or not opening:
            can = closing or can
        elif len(waits) == 1 or rng.random() < 0.6:
            can = opening
        move = rng.choice(can)
        row.append(move)
        waits = waits_behind(waits, move)
    return row
