"""Letters of machines and of plays, their order, and rows of them."""

from playsalike.errors import BadLetters, BadRow
from playsalike.kinds import is_list, is_within, is_word

MOST_NUMBER = 10 ** 6


def is_letter(thing):
    """Whether thing is a letter."""
    if not isinstance(thing, tuple) or not 1 <= len(thing) <= 5 or not is_word(thing[0]):
        return False
    return all([is_word(part) or is_within(part, 0, MOST_NUMBER) for part in thing[1:]])


def in_order(letters):
    """The list of the letters in their order, each once."""
    check_letters(letters)
    return sorted({letter: True for letter in letters}, key=letter_key)


def letter_key(letter):
    """What tells the order of letters: shorter ones first, numbers ahead of words."""
    return (len(letter), [_part_key(part) for part in letter])


def _part_key(part):
    if isinstance(part, str):
        return (1, 0, part)
    return (0, part, "")


def is_letters(thing):
    """Whether thing is a list of letters."""
    return is_list(thing) and all([is_letter(letter) for letter in thing])


def check_letters(letters):
    """Raises BadLetters unless letters is a list of letters."""
    if not is_letters(letters):
        raise BadLetters("letters are a list of letters")


def check_row(row):
    """Raises BadRow unless row is a list of letters."""
    if not is_letters(row):
        raise BadRow("a row is a list of letters")


def number_of_letters(letters):
    """The dict from letters to their places."""
    return {letter: at for at, letter in enumerate(letters)}
