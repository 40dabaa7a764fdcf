"""The moves of a piece: those that are heard, and those that are told."""

from playsalike.letters import in_order
from playsalike.pieces import check_piece


def heard_moves(piece):
    """The list, in order, of the moves that the surroundings of the piece can make."""
    check_piece(piece)
    moves = [("ask",)]
    for word, sort in piece.names.items():
        taken, given = sort
        moves.extend(answers_of(given, (word,), piece.size))
        for at, plain in enumerate(taken):
            moves.extend(questions_to(plain, "ask", (word, at), piece.size))
    return in_order(moves)


def told_moves(piece):
    """The list, in order, of the moves that the piece can make."""
    check_piece(piece)
    moves = [("break",)]
    if piece.kind == "num":
        moves.extend([("num", number) for number in range(piece.size)])
    else:
        moves.append(("do",))
    for word, sort in piece.names.items():
        taken, given = sort
        moves.extend(questions_to(given, "call", (word,), piece.size))
        for at, plain in enumerate(taken):
            moves.extend(answers_of(plain, (word, at), piece.size))
    return in_order(moves)


def questions_to(plain, asking, whose, size):
    """The questions to what has this plain sort; asking is the word for numbers and deeds."""
    if plain == "box":
        return [("get",) + whose] + [("set",) + whose + (number,) for number in range(size)]
    return [(asking,) + whose]


def answers_of(plain, whose, size):
    """The answers of what has this plain sort."""
    if plain == "num":
        return [("num",) + whose + (number,) for number in range(size)]
    if plain == "do":
        return [("did",) + whose]
    return [("value",) + whose + (number,) for number in range(size)] + [("kept",) + whose]
