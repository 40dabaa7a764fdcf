"""Moves passed between a piece and the functions and boxes that stand for its names."""

from playsalike.playing import BREAK


def is_last(told):
    """Whether a told move answers the first question, or breaks."""
    return len(told) == 1 or not isinstance(told[1], str)


def is_question(told):
    """Whether a told move is a question to a name."""
    return told[0] in ("call", "get", "set")


def heard_by_function(told, params):
    """What the function of a name with these parameters hears if a piece tells this to the name."""
    if told[0] == "call":
        return ("ask",)
    if is_question(told):
        return (told[0],) + told[2:]
    return (told[0], params[told[2]][0]) + told[3:]


def heard_by_piece(told, word, params):
    """What a piece hears of a name if the function that stands for it tells this.

    None if it is a break, or is told to another name than a parameter.
    """
    if told == BREAK:
        return None
    if told == ("do",):
        return ("did", word)
    if is_last(told):
        return (told[0], word) + told[1:]
    places = [at for at, param in enumerate(params) if param[0] == told[1]]
    if len(places) == 0:
        return None
    return ("ask" if told[0] == "call" else told[0], word, places[0]) + told[2:]


def answer_of_box(kept, told):
    """What a piece hears of a box if it tells this to it; kept leads from words to numbers."""
    word = told[1]
    if told[0] == "set":
        kept[word] = told[2]
        return ("kept", word)
    return ("value", word, kept[word])
