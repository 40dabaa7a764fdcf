"""Texts read sign by sign: which beginnings there are, and which signs can come next.

What stands behind whole tokens is told by standings. They tell whether some word that can come
begins with letters, what stands behind a word, a sign or a figure (None if it cannot come), and
what a text that ends there tells (None if none does).
"""

from playsalike.errors import BadText
from playsalike.kinds import SIGNS

FIGURES = "0123456789"
MARKS = "|();,:=<+-!{}'"


class Reading:
    """What stands behind some signs: a standing, the letters of a word that may go on, or a figure."""

    def __init__(self, standing, letters, is_figure):
        self.stand = standing
        self.letters = letters
        self.is_figure = is_figure

    def behind_word(self):
        """The standing behind the word that ends here, or of no word; None if it cannot end here."""
        if self.letters == "":
            return self.stand
        return self.stand.take_word(self.letters)

    def further(self, sign):
        """The reading behind one more sign, None if no text begins so."""
        if sign in SIGNS:
            letters = self.letters + sign
            return Reading(self.stand, letters, False) if self.stand.can_begin(letters) else None
        standing = self.behind_word()
        if standing is None or sign == " ":
            return None if standing is None else Reading(standing, "", False)
        if sign in FIGURES:
            behind = None if self.is_figure else standing.take_figure(FIGURES.index(sign))
        else:
            behind = standing.take_sign(sign) if sign in MARKS else None
        return None if behind is None else Reading(behind, "", sign in FIGURES)

    def whole(self):
        """What the text tells that ends here, None if none does."""
        standing = self.behind_word()
        return None if standing is None else standing.whole()


def read_text(start, text):
    """The reading behind a text that begins with this standing; BadText tells where it is wrong first."""
    if not isinstance(text, str):
        raise BadText(None)
    reading = Reading(start, "", False)
    for at, sign in enumerate(text):
        reading = reading.further(sign)
        if reading is None:
            raise BadText(at)
    return reading


def read_whole(start, text):
    """The standing at the end of a whole text; BadText unless it is one."""
    reading = read_text(start, text)
    if reading.whole() is None:
        raise BadText(len(text))
    return reading.behind_word()


def next_signs(start, text):
    """The pair of whether this beginning is a whole text, and the string of the signs that can come."""
    reading = read_text(start, text)
    signs = [sign for sign in sorted(" " + FIGURES + MARKS + SIGNS) if reading.further(sign) is not None]
    return (reading.whole() is not None, "".join(signs))
