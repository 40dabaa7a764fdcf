"""Rules used at places of pieces: whether left fits, and the piece with right there."""

from playsalike.errors import BadRule
from playsalike.pieces import check_piece, with_term, within_limits
from playsalike.places import names_at, part_at
from playsalike.puttings import measured, replaced
from playsalike.rules import check_rule
from playsalike.shapes import (FORMS, free_words, given_word, has_claim, names_within, parts_of,
                               plain_sort, with_part_along)
from playsalike.sorts import ascending


class Spot:
    """A part of a left term held against a part of a piece: what words mean in both of them.

    names are what words mean for the piece's part. left_own and own lead from the words that
    "new" and "made" terms give, of left and of the part that it is to fit, to numbers of these terms.
    """

    def __init__(self, left, part, names, left_own, own):
        self.left = left
        self.part = part
        self.names = names
        self.left_own = left_own
        self.own = own


def matched(rule, piece, at):
    """The ascending dict from holes to the terms that they fit, None if left does not fit there."""
    check_rule(rule)
    check_piece(piece)
    if piece.size != rule.left.size:
        raise BadRule("size")
    names = names_at(piece, at)
    return fitted(rule, names, part_at(piece, at))


def fitted(rule, names, part):
    """As matched, for a part of a piece of the rule's size for which words mean what names tell."""
    found = {}
    own_terms = 0
    waiting = [Spot(rule.left.term, part, names, {}, {})]
    while len(waiting) > 0:
        spot = waiting.pop()
        if spot.left[0] == "name":
            if not _fits_name(rule, spot, found):
                return None
        elif not _has_like_form(spot.left, spot.part):
            return None
        else:
            own_terms += 1
            waiting.extend(_inner_spots(spot, own_terms))
    return ascending(found)


def _fits_name(rule, spot, found):
    """Whether a word of left fits the part: its own term's, or a hole, which is noted in found."""
    word = spot.left[1]
    part = spot.part
    if word in spot.left_own:
        return part[0] == "name" and spot.own.get(part[1]) == spot.left_own[word]
    if plain_sort(spot.names, part) != rule.left.names[word][1] or has_claim(part):
        return False
    if any([free in spot.own for free in free_words(part)]):
        return False
    return found.setdefault(word, part) == part


def _has_like_form(left, part):
    """Whether both have the same word, numbers and sorts; parts and given words aside."""
    if left[0] != part[0]:
        return False
    form = FORMS[left[0]]
    return all([left[at + 1] == part[at + 1] for at in range(len(form))
                if form[at] in ("figure", "ending")])


def _inner_spots(spot, number):
    """The parts of left and of the part, spot by spot; this number is that of the term itself."""
    spots = []
    others = parts_of(spot.part)
    for which, left in enumerate(parts_of(spot.left)):
        left_word = given_word(spot.left, which)
        left_own, own = spot.left_own, spot.own
        if left_word is not None:
            left_own = {**left_own, left_word: number}
            own = {**own, given_word(spot.part, which): number}
        names = names_within(spot.names, spot.part, which)
        spots.append(Spot(left, others[which], names, left_own, own))
    return spots


def rewritten(rule, piece, at):
    """The piece with right at the place, None if left does not fit there."""
    found = matched(rule, piece, at)
    return None if found is None else rewritten_by(rule, piece, at, found)


def rewritten_by(rule, piece, at, found):
    """The piece with right at the place, and these terms in the place of the holes."""
    table = {hole: measured(term) for hole, term in found.items()}
    term = replaced(measured(rule.right.term), table).term
    return within_limits(with_term(piece, with_part_along(piece.term, at, term)))
