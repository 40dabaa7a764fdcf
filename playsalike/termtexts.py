"""Texts of terms, with as few brackets as can be."""

from playsalike.termmaking import KEPT

# How closely an expression holds together: what stands where something closer is wanted stands in
# brackets. Names, numbers and the like hold together as operands.
WHOLE = 0
PART = 1
SUM = 3
OPERAND = 4
LEVELS = {
    "new": 0,
    "then": 0,
    "if": 1,
    "while": 1,
    "claim": 1,
    "set": 1,
    "same": 2,
    "below": 2,
    "sum": 3,
    "less": 3,
}
SIGNS_BETWEEN = {
    "same": "=",
    "below": "<",
    "sum": "+",
    "less": "-",
}
NONE_BEHIND = "({!'"
NONE_AHEAD = ")},;"


def term_tokens(term, level):
    """The list of the tokens of a term that stands where something of this level is wanted.

    The sign that opens arguments is told with a blank ahead of it, apart from other brackets.
    """
    tokens = _tokens_of(term)
    if LEVELS.get(term[0], OPERAND) < level:
        return ["("] + tokens + [")"]
    return tokens


def _tokens_of(term):
    word = term[0]
    if word in SIGNS_BETWEEN:
        return _tokens_of_two(term)
    if word == "number":
        return [str(term[1])]
    if word == "name":
        return _tokens_of_use(term)
    if word == "made":
        return (["{"] + term_tokens(term[1], WHOLE) + [",", term[2], ","]
                + term_tokens(term[3], WHOLE) + ["}"])
    if word == "new":
        return ["new", term[1], "=", str(term[2]), "in"] + term_tokens(term[3], WHOLE)
    if word == "then":
        return term_tokens(term[1], PART) + [";"] + term_tokens(term[2], WHOLE)
    return _tokens_of_others(term)


def _tokens_of_others(term):
    """The tokens of a term that begins with a kept word, or of a box that is read or set."""
    word = term[0]
    if word == "skip":
        return ["skip"]
    if word == "never":
        return ["never", term[1]]
    if word == "get":
        return ["!"] + term_tokens(term[1], OPERAND)
    if word == "set":
        return term_tokens(term[1], OPERAND) + [":="] + term_tokens(term[2], PART)
    if word == "if":
        return (["if"] + term_tokens(term[1], WHOLE) + ["then"] + term_tokens(term[2], WHOLE)
                + ["else"] + term_tokens(term[3], PART))
    if word == "while":
        return ["while"] + term_tokens(term[1], WHOLE) + ["do"] + term_tokens(term[2], PART)
    return [word] + term_tokens(term[1], PART if word == "claim" else OPERAND)


def _tokens_of_two(term):
    """The tokens of two terms with a sign between: sums hold to the left."""
    last = OPERAND if LEVELS[term[0]] == SUM else SUM
    return term_tokens(term[1], SUM) + [SIGNS_BETWEEN[term[0]]] + term_tokens(term[2], last)


def _tokens_of_use(term):
    tokens = ["'", term[1]] if term[1] in KEPT else [term[1]]
    for at, part in enumerate(term[2]):
        tokens.append(" (" if at == 0 else ",")
        tokens.extend(term_tokens(part, WHOLE))
    return tokens + [")"] if len(term[2]) > 0 else tokens


def joined_tokens(tokens):
    """The text of tokens: one blank between two of them, but none where brackets and the like stand."""
    text = ""
    for at, token in enumerate(tokens):
        if at > 0 and not _stands_close(tokens[at - 1], token):
            text += " "
        text += token.strip()
    return text


def _stands_close(ahead, token):
    """Whether no blank stands between two tokens."""
    return token == " (" or ahead.strip() in NONE_BEHIND or token in NONE_AHEAD
