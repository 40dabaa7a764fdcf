"""Players of a piece and of what is given for its names, that pass moves to one another."""

from playsalike.givings import boxes_given, functions_given
from playsalike.passing import (answer_of_box, heard_by_function, heard_by_piece, is_last,
                                is_question)
from playsalike.players import player_of_function, player_of_piece
from playsalike.working import Watch


class Coupling:
    """The player of a piece, and a run of a function for each question to its name that waits.

    Functions are given as pairs of their parameters and a player of which each run is a twin.
    What comes is heard by who spoke last: by the piece, or by the run that began last.
    """

    def __init__(self, player, functions, boxes):
        self.player = player
        self.functions = functions
        self.boxes = boxes
        self.runs = []
        self.is_piece_on = True
        self.passed = 0

    def speaker(self):
        """The player that spoke last, or is to begin."""
        return self.player if self.is_piece_on else self.runs[-1][1]

    def hear(self, move):
        """The move that is told behind a move that can come, None if none is told any more."""
        watch = Watch()
        told = self.speaker().hear(move)
        while told is not None:
            heard = self._pass_on(told)
            if heard is None:
                return told
            if watch.comes_again(self._standing(heard)):
                return None
            told = self.speaker().hear(heard)
        return None

    def _pass_on(self, told):
        """What is heard within if this was told, None if it is told to those around."""
        if not self.is_piece_on:
            return self._pass_to_piece(told)
        if is_last(told):
            return None
        if told[1] in self.boxes:
            self.passed += 2
            return answer_of_box(self.boxes, told)
        if told[1] in self.functions:
            return self._pass_to_function(told)
        return None

    def _pass_to_function(self, told):
        params, starter = self.functions[told[1]]
        if is_question(told):
            self.runs.append((told[1], starter.twin()))
        self.passed += 1
        self.is_piece_on = False
        return heard_by_function(told, params)

    def _pass_to_piece(self, told):
        word = self.runs[-1][0]
        params, _ = self.functions[word]
        heard = heard_by_piece(told, word, params)
        if heard is None:
            return None
        if is_last(told):
            self.runs.pop()
        self.passed += 1
        self.is_piece_on = True
        return heard

    def _standing(self, heard):
        """All that what comes hangs on, if this is heard within now."""
        runs = [(word, player.standing()) for word, player in self.runs]
        return [heard, self.is_piece_on, self.player.standing(), runs, dict(self.boxes)]

    def twin(self):
        """A coupling of its own that has come as far."""
        other = Coupling(self.player.twin(), self.functions, dict(self.boxes))
        other.runs = [(word, player.twin()) for word, player in self.runs]
        other.is_piece_on = self.is_piece_on
        other.passed = self.passed
        return other


def coupling_of(piece, givings):
    """The coupling of the piece and right givings for it."""
    functions = {word: (function.params, player_of_function(function))
                 for word, function in functions_given(givings).items()}
    return Coupling(player_of_piece(piece), functions, boxes_given(givings))
