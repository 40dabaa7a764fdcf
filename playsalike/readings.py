"""Houses read apart: what parts two pieces that are driven by the same digits."""

from playsalike.alike import is_kind
from playsalike.driving import MOST_DIGITS, check_digits, move_of_digit
from playsalike.errors import BadPiece, TooMany
from playsalike.houses import House
from playsalike.partings import parting
from playsalike.pieces import check_piece
from playsalike.playing import FIRST


def read_apart(piece, other, digits):
    """The triple of the beat at which both first tell unlike moves, and these; None if they do not."""
    _check_near(piece, other)
    check_digits(digits)
    house = House(piece)
    other_house = House(other)
    move = FIRST
    for beat in range(1, len(digits) + 2):
        told = house.hear(move)
        other_told = other_house.hear(move)
        if told != other_told:
            return (beat, told, other_told)
        if house.word != "waits" or beat > len(digits):
            return None
        move = move_of_digit(house, digits[beat - 1])
    return None


def _check_near(piece, other):
    check_piece(piece)
    check_piece(other)
    if not is_kind(piece, other):
        raise BadPiece("names")


def digits_apart(piece, other):
    """Digits that lead one of both houses to an end, and with which they are read apart; or None.

    The least play that parts both has as few moves as any: so it takes as few digits.
    """
    _check_near(piece, other)
    found = parting(piece, other)
    if found is None:
        return None
    play, which = found
    heard = play[2::2]
    if len(heard) > MOST_DIGITS:
        raise TooMany(MOST_DIGITS)
    house = House(other if which == 1 else piece)
    house.hear(FIRST)
    digits = []
    for move in heard:
        digits.append(house.can_hear().index(move))
        house.hear(move)
    return digits
