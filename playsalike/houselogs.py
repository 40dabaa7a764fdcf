"""Logs of houses: two bytes for each move heard, and what is found where they are cut."""

from playsalike.errors import BadBytes, BadHouse
from playsalike.heardmoves import told_moves
from playsalike.houses import House
from playsalike.kinds import is_list, is_within
from playsalike.pieces import check_piece

# The byte for a move told that is none.
NOTHING = 255


def log_of(house):
    """The log of the play of the house: a tuple of bytes."""
    if not isinstance(house, House):
        raise BadHouse("a House is wanted")
    found = []
    other = House(house.piece)
    told = told_moves(house.piece)
    for move in house.moves[::2]:
        place = other.can_hear().index(move)
        found.extend([place, told_byte(told, other.hear(move))])
    return tuple(found)


def told_byte(told, move):
    """The byte of a move that was told, or of None, if these are the moves that can be told."""
    return NOTHING if move is None else told.index(move)


def read_log(piece, thing):
    """The triple of the house that bytes tell, how many are good, and why the others are not."""
    check_piece(piece)
    check_bytes(thing)
    house = House(piece)
    told = told_moves(piece)
    good = 0
    while good + 1 < len(thing):
        further = _heard_pair(house, told, thing[good], thing[good + 1])
        if further is None:
            return (house, good, "strange")
        house = further
        good += 2
    if good == len(thing):
        return (house, good, "whole")
    return (house, good, "torn" if thing[good] < len(house.can_hear()) else "strange")


def check_bytes(thing):
    """Raises BadBytes unless thing is a list of bytes."""
    if not is_list(thing) or not all([is_within(byte, 0, 255) for byte in thing]):
        raise BadBytes("a list of numbers from 0 to 255 is wanted")


def _heard_pair(house, told, place, byte):
    """The house behind the move at this place, None if there is none or it tells something else."""
    moves = house.can_hear()
    if place >= len(moves):
        return None
    other = house.twin()
    move = other.hear(moves[place])
    return other if told_byte(told, move) == byte else None
