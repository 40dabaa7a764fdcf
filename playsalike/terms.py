"""Judging terms: whether a value is one, its plain sort, and where it is wrong first."""

from playsalike.errors import BadTerm
from playsalike.kinds import check_size, is_within, is_word
from playsalike.shapes import FORMS, GIVEN, names_within, part_along, part_paths
from playsalike.sorts import check_names

MOST_NODES = 60
MOST_DEPTH = 12


class Look:
    """A look through a term: the size of its numbers, and how many nodes were seen."""

    def __init__(self, size):
        self.size = size
        self.nodes = 0


def is_term(size, names, thing):
    """Whether thing is a term over these names."""
    check_size(size)
    check_names(names)
    try:
        checked_sort(size, names, thing)
    except BadTerm:
        return False
    return True


def sort_of(size, names, term):
    """The plain sort of a term; BadTerm tells the place of its first wrong piece."""
    check_size(size)
    check_names(names)
    return checked_sort(size, names, term)


def checked_sort(size, names, term):
    """As sort_of, for a right size and however many right names."""
    return _sort_at(Look(size), names, term, (), 1)


def _sort_at(look, names, term, at, depth):
    look.nodes += 1
    if depth > MOST_DEPTH or look.nodes > MOST_NODES:
        raise BadTerm(at)
    if not _has_form(look.size, names, term):
        raise BadTerm(at)
    wanted = _wanted_sorts(names, term)
    sorts = []
    for number, path in enumerate(part_paths(term)):
        inner = names_within(names, term, number)
        sort = _sort_at(look, inner, part_along(term, path), at + path, depth + 1)
        if not _is_wanted(sort, wanted[number], sorts):
            raise BadTerm(at + path)
        sorts.append(sort)
    return _sort_given(names, term, sorts)


def _has_form(size, names, term):
    if not isinstance(term, tuple) or len(term) == 0 or not isinstance(term[0], str):
        return False
    if term[0] == "name":
        return _is_use(names, term)
    if term[0] not in FORMS:
        return False
    form = FORMS[term[0]]
    if len(term) != len(form) + 1:
        return False
    return all([_is_thing(size, wanted, thing) for wanted, thing in zip(form, term[1:])])


def _is_use(names, term):
    if len(term) != 3 or not is_word(term[1]) or term[1] not in names:
        return False
    return isinstance(term[2], tuple) and len(term[2]) == len(names[term[1]][0])


def _is_thing(size, wanted, thing):
    if wanted == "figure":
        return is_within(thing, 0, size - 1)
    if wanted == "word":
        return is_word(thing)
    if wanted == "ending":
        return isinstance(thing, str) and thing in ("num", "do")
    return True


def _wanted_sorts(names, term):
    if term[0] == "name":
        return names[term[1]][0]
    return [wanted for wanted in FORMS[term[0]] if wanted not in ("figure", "word", "ending")]


def _is_wanted(sort, wanted, ahead):
    if wanted == "some":
        return sort in ("num", "do")
    if wanted == "alike":
        return sort == ahead[-1]
    return sort == wanted


def _sort_given(names, term, sorts):
    if term[0] == "name":
        return names[term[1]][1]
    if term[0] == "never":
        return term[1]
    if term[0] in GIVEN:
        return GIVEN[term[0]]
    return sorts[-1]
