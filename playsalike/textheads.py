"""What stands ahead of the expression in texts of pieces and functions, read token by token."""

from playsalike.kinds import is_word
from playsalike.pieces import names_of_params
from playsalike.sorts import MOST_NAMES, PLAIN_SORTS
from playsalike.termmaking import first_standing

MOST_TAKEN = 3
MOST_LETTERS = 8


class Header:
    """What a text tells ahead of its expression: the size, the names, the parameters.

    A text of a piece is_plain; params is None as long as a text of a function has not come to them.
    """

    def __init__(self, is_plain, size, names, params):
        self.is_plain = is_plain
        self.size = size
        self.names = names
        self.params = params

    def with_name(self, word, sort):
        """The header with one more name."""
        return Header(self.is_plain, self.size, {**self.names, word: sort}, self.params)

    def with_param(self, word, sort):
        """The header with one more parameter."""
        return Header(self.is_plain, self.size, self.names, self.params + ((word, sort),))


class HeadStanding:
    """What stands behind some tokens of a text, ahead of its expression: what is to come next.

    info is what is known of the name or the parameter that is just being read.
    """

    def __init__(self, header, code, info):
        self.header = header
        self.code = code
        self.info = info

    def words_ahead(self):
        """The list of the words that can come, new ones aside."""
        if self.code == "size":
            return ["size"]
        if self.code == "part":
            return _part_words(self.header)
        if self.code == "sort":
            taken = self.info[1:]
            more = list(PLAIN_SORTS) if len(taken) < MOST_TAKEN else []
            return more + (["to"] if len(taken) > 0 else [])
        if self.code == "given":
            return ["num", "do"]
        return list(PLAIN_SORTS) if self.code == "param sort" else []

    def can_begin(self, letters):
        """Whether some word that can come begins with these letters."""
        if self.code == "name":
            return is_word(letters) and _greatest_word(letters) > _last_name(self.header)
        if self.code == "param":
            return self._may_take() and _may_be_param(self.header, letters, MOST_LETTERS)
        return any([word.startswith(letters) for word in self.words_ahead()])

    def _may_take(self):
        return len(self.header.params) < MOST_TAKEN

    def take_word(self, word):
        """The standing behind a word, None if it cannot come."""
        header = self.header
        if self.code == "name":
            is_new = is_word(word) and word > _last_name(header)
            return HeadStanding(header, "sort", (word,)) if is_new else None
        if self.code == "param":
            is_new = self._may_take() and _may_be_param(header, word, 0)
            return HeadStanding(header, "param sort", (word,)) if is_new else None
        if word not in self.words_ahead():
            return None
        action = WORD_ACTIONS[self.code]
        return action(header, self.info, word)

    def take_sign(self, sign):
        """The standing behind a sign, None if it cannot come: there is just one sign between parts."""
        if sign != "|":
            return None
        if self.code in ("bar", "param"):
            return HeadStanding(self.header, "part", ())
        if self.code == "sort" and len(self.info) == 2:
            return HeadStanding(self.header.with_name(self.info[0], ((), self.info[1])), "part", ())
        return None

    def take_figure(self, figure):
        """The standing behind a figure, None if it cannot come."""
        if self.code != "number" or not 2 <= figure <= 4:
            return None
        header = self.header
        return HeadStanding(Header(header.is_plain, figure, header.names, header.params), "bar", ())

    def whole(self):
        """None: ahead of the expression no text ends."""
        return None


def piece_start():
    """What stands ahead of a text of a piece."""
    return HeadStanding(Header(True, None, {}, None), "size", ())


def function_start():
    """What stands ahead of a text of a function."""
    return HeadStanding(Header(False, None, {}, None), "size", ())


def _last_name(header):
    """The word of the last name, which the next one is above."""
    return max(header.names, default="")


def _greatest_word(letters):
    """The greatest word that begins with these letters."""
    return letters + "z" * (MOST_LETTERS - len(letters))


def _may_be_param(header, letters, most):
    """Whether these letters, or a longer word with them ahead if there may be so many, can be a parameter."""
    if not is_word(letters):
        return False
    taken = {**header.names, **names_of_params(header.params)}
    return letters not in taken or len(letters) < most


def _part_words(header):
    """The words that can come behind the sign between the parts of a text."""
    if header.params is not None:
        return ["does"]
    last = ["does" if header.is_plain else "takes"]
    if len(header.names) < MOST_NAMES and _last_name(header) < _greatest_word(""):
        return ["name"] + last
    return last


def _take_size(header, _info, _word):
    return HeadStanding(header, "number", ())


def _take_part(header, _info, word):
    """The beginning of a name, of the parameters, or of the expression."""
    if word == "name":
        return HeadStanding(header, "name", ())
    if word == "takes":
        return HeadStanding(Header(False, header.size, header.names, ()), "param", ())
    params = () if header.params is None else header.params
    wants = ("num", "do") if header.is_plain or len(params) > 0 else ("num", "do", "box")
    return first_standing(header, wants, {**header.names, **names_of_params(params)})


def _take_sort(header, info, word):
    if word == "to":
        return HeadStanding(header, "given", info)
    return HeadStanding(header, "sort", info + (word,))


def _take_given(header, info, word):
    return HeadStanding(header.with_name(info[0], (tuple(info[1:]), word)), "bar", ())


def _take_param_sort(header, info, word):
    return HeadStanding(header.with_param(info[0], word), "param", ())


WORD_ACTIONS = {
    "size": _take_size,
    "part": _take_part,
    "sort": _take_sort,
    "given": _take_given,
    "param sort": _take_param_sort,
}
