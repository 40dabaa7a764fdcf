"""Journals of workbenches: texts of deeds, there and back, and deeds that are not needed left out."""

from playsalike.benches import Bench, check_bench, check_deed, first_stand, is_deed, stand_behind
from playsalike.books import check_book
from playsalike.errors import BadLine, BadText, NotLet, TooMany
from playsalike.kinds import is_list
from playsalike.piecetexts import function_of_text, function_text
from playsalike.textreader import FIGURES

MOST_DEEDS = 64
MOST_FIGURES = 10


def deed_line(deed):
    """The text of a deed."""
    check_deed(deed)
    if deed[0] == "put":
        return f"put {deed[1]} {function_text(deed[2])}"
    things = deed[1] if deed[0] == "ask" else deed[1:]
    return " ".join([deed[0]] + [str(thing) for thing in things])


def deed_of_line(text):
    """The deed of which this is the text."""
    if not isinstance(text, str):
        raise BadLine(None)
    deed = _deed_told(text.split(" "))
    if not is_deed(deed) or deed_line(deed) != text:
        raise BadLine(None)
    return deed


def _deed_told(words):
    """The deed that these words may tell; it may be none."""
    if words[0] == "put" and len(words) > 2:
        return ("put", words[1], _function_told(" ".join(words[2:])))
    if words[0] == "ask":
        return ("ask", tuple(words[1:]))
    if words[0] in ("unask", "back"):
        return tuple(words[:-1]) + (_number_told(words[-1]),)
    return tuple(words)


def _function_told(text):
    """The function that a text tells, None if it tells none."""
    try:
        return function_of_text(text)
    except (BadText, TooMany):
        return None


def _number_told(word):
    """The number that a word of figures tells, None if it tells none."""
    if not 1 <= len(word) <= MOST_FIGURES or not all([sign in FIGURES for sign in word]):
        return None
    return int(word)


def journal(bench):
    """The list of the texts of the present deeds."""
    check_bench(bench)
    return [deed_line(deed) for deed in bench.deeds()]


def taken_up(book, lines):
    """The bench that has done the deeds of all these texts."""
    check_book(book)
    if not is_list(lines):
        raise BadLine(None)
    bench = Bench(book)
    for number, line in enumerate(lines):
        try:
            bench.do(deed_of_line(line))
        except (BadLine, NotLet):
            raise BadLine(number) from None
    return bench


def trimmed(bench):
    """The list of the present deeds that are left when each is left out without which the others do as well."""
    check_bench(bench)
    deeds = bench.deeds()
    if len(deeds) > MOST_DEEDS:
        raise TooMany(MOST_DEEDS)
    wanted = _stand_of(first_stand(bench.first), deeds)
    while True:
        fewer = _with_each_tried(bench.first, deeds, wanted)
        if len(fewer) == len(deeds):
            return deeds
        deeds = fewer


def _with_each_tried(book, deeds, wanted):
    """The deeds that are left when each one, from the last to the first, is left out if it can be."""
    left = deeds
    for at in reversed(range(len(deeds))):
        ahead = _stand_of(first_stand(book), left[:at])
        stand = _stand_of(ahead, left[at + 1:])
        if stand is not None and _leads_to(stand, wanted):
            left = left[:at] + left[at + 1:]
    return left


def _stand_of(stand, deeds):
    """What stands behind these deeds, None if one of them cannot be done."""
    for deed in deeds:
        try:
            stand = stand_behind(stand, deed)
        except NotLet:
            return None
    return stand


def _leads_to(stand, wanted):
    """Whether book and questions are the wanted ones, the numbers of questions aside."""
    return stand.book == wanted.book and list(stand.asked.values()) == list(wanted.asked.values())
