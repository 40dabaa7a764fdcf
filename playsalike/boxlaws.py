"""What boxes of a piece may keep behind it, if nobody else sets them."""

from playsalike.errors import BadBoxes, BadStarts
from playsalike.kinds import is_list, is_within
from playsalike.machines import end_table
from playsalike.pieces import check_piece
from playsalike.playing import BREAK
from playsalike.plays import machine_of
from playsalike.sorts import BOX

MOST_BOXES = 3


class Runs:
    """All plays of a machine from some standings of boxes, which keep what is set.

    sources lead from pairs of a state and a standing to those from which one move leads there;
    ends are triples of the last pair ahead of an end, the standing then, and the last move.
    """

    def __init__(self, machine, boxes, starts):
        self.sources = {}
        self.ends = []
        ended = end_table(machine)
        waiting = [(0, start) for start in starts]
        seen = {pair: True for pair in waiting}
        while len(waiting) > 0:
            pair = waiting.pop()
            for k, goal in machine.ways[pair[0]]:
                standing = standing_behind(boxes, pair[1], machine.letters[k])
                if standing is None:
                    continue
                if goal in ended:
                    self.ends.append((pair, standing, machine.letters[k]))
                    continue
                further = (goal, standing)
                self.sources.setdefault(further, []).append(pair)
                if further not in seen:
                    seen[further] = True
                    waiting.append(further)

    def leading_to(self, is_wanted):
        """The dict whose keys are all pairs from which some play has an end that is wanted."""
        waiting = [pair for pair, standing, last in self.ends if is_wanted(standing, last)]
        found = {pair: True for pair in waiting}
        while len(waiting) > 0:
            pair = waiting.pop()
            for source in self.sources.get(pair, []):
                if source not in found:
                    found[source] = True
                    waiting.append(source)
        return found


def standing_behind(boxes, standing, move):
    """What the boxes keep behind a move, None if they do not let it come."""
    if len(move) < 2 or move[1] not in boxes:
        return standing
    at = boxes.index(move[1])
    if move[0] == "set":
        return standing[:at] + (move[2],) + standing[at + 1:]
    if move[0] == "value" and move[2] != standing[at]:
        return None
    return standing


def after(piece, boxes, starts):
    """The ascending list of all standings that the boxes may have behind the piece."""
    check_piece(piece)
    check_boxes(piece, boxes)
    check_standings(piece, boxes, starts)
    return standings_behind(machine_of(piece), boxes, starts, _is_unbroken)


def _is_unbroken(last):
    return last != BREAK


def standings_behind(machine, boxes, starts, is_wanted):
    """The ascending list of the standings behind plays whose last move is wanted."""
    runs = Runs(machine, boxes, starts)
    return sorted({standing: True for pair, standing, last in runs.ends if is_wanted(last)})


def breaks_from(piece, boxes, starts):
    """The ascending list of those of starts from which a claim can break."""
    check_piece(piece)
    check_boxes(piece, boxes)
    check_standings(piece, boxes, starts)
    runs = Runs(machine_of(piece), boxes, starts)
    leading = runs.leading_to(lambda standing, last: last == BREAK)
    return sorted({start: True for start in starts if (0, start) in leading})


def check_boxes(piece, boxes):
    """Raises BadBoxes unless these are all boxes of the piece, each once, 1 to 3."""
    wanted = [word for word, sort in piece.names.items() if sort == BOX]
    if not isinstance(boxes, tuple) or not 1 <= len(boxes) <= MOST_BOXES:
        raise BadBoxes("a tuple of 1 to 3 boxes is wanted")
    if not all([isinstance(word, str) for word in boxes]) or sorted(boxes) != wanted:
        raise BadBoxes("all boxes of the piece are wanted, each once")


def check_standings(piece, boxes, standings):
    """Raises BadStarts unless these are a list of standings of the boxes."""
    if not is_list(standings):
        raise BadStarts("a list of standings is wanted")
    for standing in standings:
        if not isinstance(standing, tuple) or len(standing) != len(boxes):
            raise BadStarts("a standing tells a number for each box")
        if not all([is_within(number, 0, piece.size - 1) for number in standing]):
            raise BadStarts("a number of a standing is none of the piece")
