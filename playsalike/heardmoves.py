"""The moves of a piece: those that are heard, and those that are told."""

from playsalike.letters import in_order
from playsalike.pieces import check_piece


def heard_moves(piece):
    """The list, in order, of the moves that the surroundings of the piece can make."""
    check_piece(piece)
    return heard_over(piece.size, piece.kind, piece.names)


def told_moves(piece):
    """The list, in order, of the moves that the piece can make."""
    check_piece(piece)
    return told_over(piece.size, piece.kind, piece.names)


def heard_over(size, kind, names):
    """The list, in order, of the moves that a term of this plain sort over names can hear."""
    moves = questions_to(kind, "ask", (), size)
    for word, sort in names.items():
        taken, given = sort
        moves.extend(answers_of(given, (word,), size))
        for at, plain in enumerate(taken):
            moves.extend(questions_to(plain, "ask", (word, at), size))
    return in_order(moves)


def told_over(size, kind, names):
    """The list, in order, of the moves that a term of this plain sort over names can tell."""
    moves = [("break",)]
    moves.extend([("do",)] if kind == "do" else answers_of(kind, (), size))
    for word, sort in names.items():
        taken, given = sort
        moves.extend(questions_to(given, "call", (word,), size))
        for at, plain in enumerate(taken):
            moves.extend(answers_of(plain, (word, at), size))
    return in_order(moves)


def moves_over(size, kind, names):
    """The list, in order, of all moves of a term of this plain sort over names."""
    return in_order(heard_over(size, kind, names) + told_over(size, kind, names))


def questions_to(plain, asking, whose, size):
    """The questions to what has this plain sort; asking is the word for numbers and deeds."""
    if plain == "box":
        return [("get",) + whose] + [("set",) + whose + (number,) for number in range(size)]
    return [(asking,) + whose]


def answers_of(plain, whose, size):
    """The answers of what has this plain sort."""
    if plain == "num":
        return [("num",) + whose + (number,) for number in range(size)]
    if plain == "do":
        return [("did",) + whose]
    return [("value",) + whose + (number,) for number in range(size)] + [("kept",) + whose]
