"""Expressions read token by token, and the terms that are made of them.

Behind each token it is known just what can come: of which plain sort the next operand may be, and
how the expression can go on behind one. What cannot come leads to None.
"""

from playsalike.frames import Frame
from playsalike.kinds import is_word
from playsalike.sorts import BOX, NUMBER

KEPT = ("if", "then", "else", "while", "do", "new", "in", "claim", "not", "skip", "never")

# What the signs between two operands make, and which words and signs end expressions of each kind.
SUMS = {"+": "sum", "-": "less"}
COMPARISONS = {"=": "same", "<": "below"}
ENDING_WORDS = {"test": "then", "branch": "else", "loop": "do"}
ENDING_SIGNS = {"group": ")", "read": ",", "written": "}"}

# Where new words come, and what comes behind them.
NEW_WORDS = {"own word": "own equals", "made word": "made comma"}


class Standing:
    """What stands behind some tokens of an expression: what is to come next, and in which frame.

    header tells the size; info is what is known of what is just being read.
    """

    def __init__(self, header, code, frame, info):
        self.header = header
        self.code = code
        self.frame = frame
        self.info = info

    def moved(self, code, frame, info):
        """The standing in which this is to come."""
        return Standing(self.header, code, frame, info)

    def words_ahead(self):
        """The list of the words that can come, new ones aside."""
        if self.code == "operand":
            names = [word for word in self.frame.names_ahead() if word not in KEPT]
            return _kept_words(self.frame) + names
        if self.code == "quoted":
            return self.frame.names_ahead()
        if self.code == "never":
            return list(self.frame.plain_allowed())
        if self.code == "box":
            return [word for word in self.frame.boxes_ahead() if word not in KEPT]
        if self.code == "quoted box":
            return self.frame.boxes_ahead()
        if self.code == "own in":
            return ["in"]
        if self.code == "behind" and self.frame.kind in ENDING_WORDS and _is_wanted(self.frame):
            return [ENDING_WORDS[self.frame.kind]]
        return []

    def can_begin(self, letters):
        """Whether some word that can come begins with these letters."""
        if self.code in NEW_WORDS:
            return is_word(letters)
        return any([word.startswith(letters) for word in self.words_ahead()])

    def take_word(self, word):
        """The standing behind a word, None if it cannot come."""
        if self.code in NEW_WORDS:
            return self.moved(NEW_WORDS[self.code], self.frame, self.info + (word,)) if is_word(word) else None
        if word not in self.words_ahead():
            return None
        if self.code == "operand" and word in KEPT:
            action = KEPT_ACTIONS[word]
            return action(self)
        action = WORD_ACTIONS[self.code]
        return action(self, word)

    def take_sign(self, sign):
        """The standing behind a sign, None if it cannot come."""
        if self.code not in SIGN_ACTIONS:
            return None
        action = SIGN_ACTIONS[self.code]
        return action(self, sign)

    def take_figure(self, figure):
        """The standing behind a figure, None if it cannot come."""
        if figure >= self.header.size:
            return None
        if self.code == "own figure":
            return self.moved("own in", self.frame, self.info + (figure,))
        if self.code == "operand" and "num" in self.frame.allowed():
            return _completed(self, self.frame, ("number", figure), "num")
        return None

    def whole(self):
        """The term of the whole expression if it may end here, None otherwise."""
        if self.frame.kind != "whole":
            return None
        if self.code == "colon" and "box" in self.frame.allowed():
            return self.info[0]
        if self.code == "behind" and _is_wanted(self.frame):
            return self.frame.whole_term()
        return None


def first_standing(header, wants, scope):
    """What stands ahead of an expression that may have these plain sorts, words meaning what scope tells."""
    return Standing(header, "operand", Frame("whole", None, wants, scope, ()), ())


def _is_wanted(frame):
    """Whether the expression may end behind its last operand."""
    return frame.sort_behind() in frame.wants


def _kept_words(frame):
    """The list of the kept words that may begin the next operand."""
    allowed = frame.allowed()
    words = ["never"]
    if "num" in allowed:
        words.append("not")
    if "do" in allowed:
        words.append("skip")
    if len(frame.left) == 0:
        words.append("if")
        if "do" in allowed:
            words.extend(["while", "claim"])
        if len(frame.chain) == 0:
            words.append("new")
    return words


def _completed(standing, frame, term, sort):
    """The standing behind a whole operand: what waited for just this one is made of it."""
    left = list(frame.left)
    while len(left) > 0 and left[-1][0] in ("not", "sum", "less"):
        term = left.pop() + (term,)
    return standing.moved("behind", frame.with_rows(frame.done, frame.chain, left, (term, sort)), ())


def _linked(standing, link):
    """The standing behind what the last part goes on with: its own last part is still to come."""
    frame = standing.frame
    return standing.moved("operand", frame.with_rows(frame.done, frame.chain + [link], [], None), ())


def _waiting(standing, row):
    """The standing in which an operand is waited for, which makes a term with this row."""
    frame = standing.frame
    return standing.moved("operand", frame.with_rows(frame.done, frame.chain, frame.left + [row], None), ())


def _further(standing, wants, scope, row):
    """The standing in which the rest of an expression is to come, with this row ahead of it."""
    frame = standing.frame
    other = Frame(frame.kind, frame.outer, wants, scope, frame.info)
    return standing.moved("operand", other.with_rows(frame.done + [row], [], [], None), ())


def _within(standing, frame, kind, wants, info):
    """The standing in which an expression is to come that is a part of what stands in the frame."""
    return standing.moved("operand", Frame(kind, frame, wants, frame.scope, info), ())


def _plain(wants):
    return tuple([sort for sort in wants if sort != "box"])


def _take_not(standing):
    return _waiting(standing, ("not",))


def _take_skip(standing):
    return _completed(standing, standing.frame, ("skip",), "do")


def _take_never(standing):
    return standing.moved("never", standing.frame, ())


def _take_if(standing):
    return _within(standing, standing.frame, "test", ("num",), ())


def _take_while(standing):
    return _within(standing, standing.frame, "loop", ("num",), ())


def _take_claim(standing):
    return _linked(standing, ("claim", "num"))


def _take_new(standing):
    return standing.moved("own word", standing.frame, ())


def _take_name(standing, word):
    """A name: a box is set, unless it is the whole; other ones may have arguments."""
    frame = standing.frame
    taken, given = frame.scope[word]
    if given == "box":
        return standing.moved("colon", frame, (("name", word, ()),))
    if len(taken) > 0:
        return standing.moved("arguments", frame, (word, ()))
    return _completed(standing, frame, ("name", word, ()), given)


def _take_never_sort(standing, word):
    return _completed(standing, standing.frame, ("never", word), word)


def _take_box(standing, word):
    return _with_box(standing, standing.frame, standing.info, ("name", word, ()))


def _take_in(standing, _word):
    frame = standing.frame
    word, number = standing.info
    return _further(standing, _plain(frame.wants), {**frame.scope, word: BOX}, ("new", word, number))


def _end_by_word(standing, _word):
    """The end of a test, of what is done if it holds, or of the test of a loop."""
    frame = standing.frame
    outer = frame.outer
    term = frame.whole_term()
    if frame.kind == "test":
        return _within(standing, outer, "branch", outer.plain_allowed(), (term,))
    around = standing.moved("operand", outer, ())
    if frame.kind == "loop":
        return _linked(around, ("while", "do", term))
    return _linked(around, ("if", frame.sort_behind(), frame.info[0], term))


def _with_box(standing, frame, use, box):
    """The standing behind a box that is used so: it is read, set, or an argument."""
    if use[0] == "get":
        return _completed(standing, frame, ("get", box), "num")
    if use[0] == "set":
        return standing.moved("colon", frame, (box,))
    return standing.moved("behind box", frame, (use[1], use[2] + (box,)))


def _sign_of_operand(standing, sign):
    frame = standing.frame
    if sign == "(":
        return _within(standing, frame, "group", frame.plain_allowed(), ())
    if sign == "!" and "num" in frame.allowed():
        return standing.moved("box", frame, ("get",))
    if sign == "{" and frame.may_set():
        return _within(standing, frame, "read", ("num",), ("set",))
    if sign == "'" and len(frame.names_ahead()) > 0:
        return standing.moved("quoted", frame, ())
    return None


def _sign_of_box(standing, sign):
    if sign == "{":
        return _within(standing, standing.frame, "read", ("num",), standing.info)
    if sign == "'" and len(standing.frame.boxes_ahead()) > 0:
        return standing.moved("quoted box", standing.frame, standing.info)
    return None


def _sign_behind(standing, sign):
    """A sign behind an operand: it goes on with another one, or ends the expression."""
    frame = standing.frame
    term, sort = frame.operand
    if sign in SUMS:
        return _waiting(standing, (SUMS[sign], term)) if sort == "num" else None
    if sign in COMPARISONS:
        if sort != "num" or len(frame.left) > 0:
            return None
        return _waiting(standing, (COMPARISONS[sign], term))
    if sign == ";":
        if frame.sort_behind() != "do":
            return None
        return _further(standing, _plain(frame.wants), frame.scope, ("then", frame.last_part()))
    return _end_by_sign(standing, sign) if _is_wanted(frame) else None


def _end_by_sign(standing, sign):
    frame = standing.frame
    if frame.kind == "argument":
        word, args = frame.info
        return _argument_ended(standing, frame.outer, (word, args + (frame.whole_term(),)), sign)
    if frame.kind not in ENDING_SIGNS or ENDING_SIGNS[frame.kind] != sign:
        return None
    term = frame.whole_term()
    if frame.kind == "group":
        return _completed(standing, frame.outer, term, frame.sort_behind())
    if frame.kind == "read":
        return standing.moved("made word", frame.outer, (frame.info, term))
    use, read, word = frame.info
    return _with_box(standing, frame.outer, use, ("made", read, word, term))


def _sign_of_arguments(standing, sign):
    return _next_argument(standing, standing.frame, standing.info) if sign == "(" else None


def _next_argument(standing, frame, use):
    """The standing in which the next argument of a use, a word and the arguments so far, is to come."""
    word, args = use
    plain = frame.scope[word][0][len(args)]
    if plain == "box":
        return standing.moved("box", frame, ("argument", word, args))
    return _within(standing, frame, "argument", (plain,), use)


def _argument_ended(standing, frame, use, sign):
    """The standing behind the sign that ends the last argument of a use."""
    word, args = use
    taken, given = frame.scope[word]
    if len(args) < len(taken):
        return _next_argument(standing, frame, use) if sign == "," else None
    return _completed(standing, frame, ("name", word, args), given) if sign == ")" else None


def _sign_behind_box(standing, sign):
    return _argument_ended(standing, standing.frame, standing.info, sign)


def _sign_of_comma(standing, sign):
    if sign != ",":
        return None
    frame = standing.frame
    use, read, word = standing.info
    scope = {**frame.scope, word: NUMBER}
    return standing.moved("operand", Frame("written", frame, ("do",), scope, (use, read, word)), ())


def _sign_of_colon(standing, sign):
    return standing.moved("equals", standing.frame, standing.info) if sign == ":" else None


def _sign_of_equals(standing, sign):
    return _linked(standing, ("set", "num", standing.info[0])) if sign == "=" else None


def _sign_of_own(standing, sign):
    return standing.moved("own figure", standing.frame, standing.info) if sign == "=" else None


KEPT_ACTIONS = {
    "not": _take_not,
    "skip": _take_skip,
    "never": _take_never,
    "if": _take_if,
    "while": _take_while,
    "claim": _take_claim,
    "new": _take_new,
}

WORD_ACTIONS = {
    "operand": _take_name,
    "quoted": _take_name,
    "never": _take_never_sort,
    "box": _take_box,
    "quoted box": _take_box,
    "own in": _take_in,
    "behind": _end_by_word,
}

SIGN_ACTIONS = {
    "operand": _sign_of_operand,
    "box": _sign_of_box,
    "behind": _sign_behind,
    "arguments": _sign_of_arguments,
    "behind box": _sign_behind_box,
    "made comma": _sign_of_comma,
    "colon": _sign_of_colon,
    "equals": _sign_of_equals,
    "own equals": _sign_of_own,
}
