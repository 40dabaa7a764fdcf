"""Programs around pieces made out of plays: each one goes along with just one play."""

from playsalike.arounds import made_around
from playsalike.counters import box_named, counted_on
from playsalike.pieces import check_piece, made_function
from playsalike.playing import ANSWERS, BREAK
from playsalike.scripts import STOP, Script, check_play, then
from playsalike.shapes import SKIP
from playsalike.sorts import BOX
from playsalike.words import fresh_words


def around_of(piece, play):
    """The program around pieces of this kind that ends, or lets break, by this play alone."""
    check_piece(piece)
    check_play(piece, play)
    script = Script(piece, play)
    boxes = tuple([(word, 0) for word in script.words])
    functions = {word: _function(script, word) for word in piece.names}
    ending = _ending(script, piece.kind)
    return made_around(piece.size, piece.names, piece.kind, boxes, functions, ending)


def _ending(script, kind):
    """What is done with the piece: it ends if the play does, at its last beat."""
    last = script.told[-1]
    piece = box_named("it")
    if last == BREAK:
        return ("then", piece, STOP) if kind == "do" else ("if", piece, STOP, STOP)
    if kind == "do":
        return then(piece, _told_at(script, last))
    answers = {beat: last[1] if told == last else None for beat, told in enumerate(script.told)}
    return _if_same(piece, script.number_at(answers), SKIP)


def _if_same(term, number, deed):
    """The deed, if the term is worth this number; it never ends otherwise."""
    return ("if", ("same", term, number), deed, STOP)


def _function(script, word):
    """What stands for a name: it goes on only by what the play tells and hears of this name."""
    taken, given = script.names[word]
    boxes = {box: BOX for box in script.words}
    params = tuple(list(zip(fresh_words(boxes, len(taken)), taken)))
    if given == "box":
        term = _box_term(script, word)
    elif ("call", word) in script.told:
        term = _called_term(script, word, params, given)
    else:
        term = ("never", given)
    return made_function(script.size, boxes, params, term, (taken, given))


def _told_at(script, move):
    """The deed that goes on only at the beats in which this move is told."""
    return script.let_at({beat: told == move for beat, told in enumerate(script.told)})


def _box_term(script, word):
    """A made box that is read and written as the play tells."""
    own = fresh_words({box: True for box in script.words}, 1)[0]
    return ("made", _read_term(script, word), own, _written_term(script, word, box_named(own)))


def _read_term(script, word):
    question = ("get", word)
    if question not in script.told:
        return ("never", "num")
    kept = {beat: heard[2] for beat, heard in enumerate(script.heard)
            if script.asked[beat] == question}
    deed = then(_told_at(script, question), counted_on(script.words))
    return then(deed, script.number_at(kept))


def _written_term(script, word, number):
    put = {beat: told[2] if told[:2] == ("set", word) else None
           for beat, told in enumerate(script.told)}
    if not any([told is not None for told in put.values()]):
        return STOP
    return _if_same(number, script.number_at(put), counted_on(script.words))


def _called_term(script, word, params, given):
    """The body of a function: it checks the call, asks its parameters, and answers."""
    call = ("call", word)
    heard = {beat: move for beat, move in enumerate(script.heard) if script.asked[beat] == call}
    asks = {beat: move for beat, move in heard.items() if move[0] in ANSWERS}
    talk = counted_on(script.words)
    if len(asks) > 0:
        goes_on = script.number_at({beat: 1 if beat in asks else 0 for beat in heard})
        talk = ("while", then(talk, goes_on), _exchanges(script, params, asks))
    deed = then(_told_at(script, call), talk)
    if given == "do":
        return deed
    answers = {beat: move[2] for beat, move in heard.items() if beat not in asks}
    return then(deed, script.number_at(answers))


def _exchanges(script, params, asks):
    """The deed that does, at each beat of asks, what is asked of a parameter there."""
    kinds = {}
    for beat, move in asks.items():
        kinds.setdefault((move[0], move[2]), []).append(beat)
    left = dict(asks)
    deeds = []
    for beats in kinds.values():
        is_kind = script.number_at({beat: 1 if beat in beats else 0 for beat in left})
        deeds.append((is_kind, _exchange(script, params, [(beat, asks[beat]) for beat in beats])))
        left = {beat: move for beat, move in left.items() if beat not in beats}
    deed = deeds[-1][1]
    for is_kind, other in reversed(deeds[:-1]):
        deed = ("if", is_kind, other, deed)
    return deed


def _exchange(script, params, asks):
    """The deed that asks a parameter and checks what is told, asks being all such beats and moves."""
    asking, word, at = asks[0][1][:3]
    param, plain = params[at]
    told = {beat: script.told[beat] for beat in range(len(script.told))
            if script.waits[beat] in [move for _, move in asks]}
    term = box_named(param)
    if asking == "set":
        numbers = script.number_at({beat: move[3] for beat, move in asks})
        return then(("set", term, numbers), _told_so(script, told, ("kept", word, at)))
    if plain == "do":
        return then(term, _told_so(script, told, ("did", word, at)))
    answer = "num" if plain == "num" else "value"
    numbers = {beat: move[3] if move[:3] == (answer, word, at) else None for beat, move in told.items()}
    return _if_same(term if plain == "num" else ("get", term), script.number_at(numbers), SKIP)


def _told_so(script, told, answer):
    """The deed that goes on at those beats of told in which this answer is told."""
    return script.let_at({beat: move == answer for beat, move in told.items()})
