"""Houses driven by digits, and all short plays of houses."""

from playsalike.errors import BadDigits, BadNumber, TooMany
from playsalike.houses import House
from playsalike.kinds import is_list, is_number, is_within
from playsalike.letters import in_order
from playsalike.pieces import check_piece
from playsalike.players import player_of_piece

MOST_DIGITS = 400
MOST_PLAYS = 2000
MOST_HEARINGS = 20000


def driven(piece, digits):
    """The house that has heard the first question, and then what the digits tell."""
    check_piece(piece)
    check_digits(digits)
    house = House(piece)
    house.hear(("ask",))
    for digit in digits:
        if house.word != "waits":
            break
        house.hear(move_of_digit(house, digit))
    return house


def check_digits(digits):
    """Raises BadDigits unless digits are a list of at most 400 numbers from 0 on."""
    if not is_list(digits) or len(digits) > MOST_DIGITS:
        raise BadDigits("digits are a list of at most 400 numbers")
    if not all([is_number(digit) and digit >= 0 for digit in digits]):
        raise BadDigits("digits are numbers from 0 on")


def move_of_digit(house, digit):
    """The move that a house which waits hears by this digit."""
    moves = house.can_hear()
    return moves[digit % len(moves)]


def house_plays(piece, most):
    """The list of all plays of at most so many moves with which houses of the piece end or break.

    They are found in their order: plays part at moves that are heard, and these are in order.
    """
    check_piece(piece)
    if not is_within(most, 0, 40):
        raise BadNumber("most")
    found = []
    tried = 0
    begun = [(player_of_piece(piece), [])]
    for _ in range(most // 2):
        behind = []
        for player, moves in begun:
            can_come = in_order(player.can_hear())
            tried += len(can_come)
            if tried > MOST_HEARINGS:
                raise TooMany(MOST_PLAYS)
            behind.extend([_heard(player, moves, move) for move in can_come])
        begun = [(player, moves) for player, moves in behind if player.word == "waits"]
        found.extend([moves for player, moves in behind if player.word in ("ended", "broken")])
        if len(found) > MOST_PLAYS:
            raise TooMany(MOST_PLAYS)
    return found


def _heard(player, moves, move):
    """What comes of a player with these moves by one more: a twin, and its moves."""
    other = player.twin()
    return other, moves + [move, other.hear(move)]
