"""Pieces made out of plays: each one has just one play.

What the piece does is found move by move. Segments are what it does from a question to it on, up
to its answer; uses are its own questions to names, and what is answered and asked then.
"""

from playsalike.counters import box_named, chosen, counted_to
from playsalike.pieces import check_piece, made_piece
from playsalike.playing import ANSWERS, BREAK
from playsalike.scripts import STOP, Script, check_play, then
from playsalike.shapes import SKIP
from playsalike.words import fresh_word

FALSE = ("claim", ("number", 0))


class Segment:
    """What the piece does for a question that it heard in a beat, as far as it is known."""

    def __init__(self, beat, question, rows):
        self.beat = beat
        self.question = question
        self.rows = rows
        self.term = None


class Use:
    """A question to a name: the beats in which something was heard for it, and the ended segments."""

    def __init__(self, question):
        self.question = question
        self.beats = []
        self.segments = []


def sole_piece(piece, play):
    """A piece of this piece's kind that has this play, and no other one."""
    check_piece(piece)
    check_play(piece, play)
    script = Script(piece, play)
    term = _whole_segment(script)
    for at, word in enumerate(script.words):
        # The first beat is heard ahead of all: so the counter begins with the next one.
        term = ("new", word, 1 if at == 0 else 0, term)
    return made_piece(piece.size, piece.names, term, piece.kind)


def _whole_segment(script):
    """The term that does all the play, given the counter of its beats."""
    segments = [Segment(0, script.heard[0], [])]
    uses = []
    for beat, told in enumerate(script.told):
        if beat > 0:
            _hear(script, segments, uses, beat)
        if told == BREAK:
            return _broken_off(script, segments, uses)
        if told[0] in ANSWERS:
            uses.append(Use(told))
        else:
            segment = segments.pop()
            segment.term = _in_turn(segment.rows, _answer_term(told))
            if len(uses) > 0:
                uses[-1].segments.append(segment)
    return segment.term


def _hear(script, segments, uses, beat):
    """Notes what is heard in a beat: a segment is begun, or a use is answered."""
    heard = script.heard[beat]
    use = uses[-1]
    use.beats.append(beat)
    on = counted_to(script.words, beat, beat + 1)
    if heard[0] in ANSWERS:
        segments.append(Segment(beat, heard, [on]))
    else:
        uses.pop()
        segments[-1].rows.append(then(_answered(script, use, heard), on))


def _answered(script, use, heard):
    """The deed that asks a name, and goes on only if it is answered so, and then."""
    question = use.question
    if question[0] == "set":
        return ("set", box_named(question[1]), ("number", question[2]))
    if question[0] == "get":
        return _if_same(("get", box_named(question[1])), ("number", heard[2]))
    term = _use_term(script, use)
    last = use.beats[-1]
    if heard[0] == "did":
        return then(term, script.let_at({beat: beat == last for beat in use.beats}))
    numbers = {beat: heard[2] if beat == last else None for beat in use.beats}
    return _if_same(term, script.number_at(numbers))


def _if_same(term, number):
    """The deed that goes on only if both are the same."""
    return ("if", ("same", term, number), SKIP, STOP)


def _use_term(script, use):
    """The use of a name, each argument of which does what its segments tell, at their beats alone."""
    word = use.question[1]
    taken = script.names[word][0]
    return ("name", word, tuple([_argument(script, use, at, plain) for at, plain in enumerate(taken)]))


def _argument(script, use, at, plain):
    own = [segment for segment in use.segments if segment.question[2] == at]
    if plain != "box":
        return _at_beats(script, use, [(segment.beat, segment.term) for segment in own], plain)
    word = fresh_word({**script.names, **{word: True for word in script.words}})
    read = [(segment.beat, segment.term) for segment in own if segment.question[0] == "get"]
    written = [(segment.beat, _if_written(word, segment)) for segment in own
               if segment.question[0] == "set"]
    return ("made", _at_beats(script, use, read, "num"), word, _at_beats(script, use, written, "do"))


def _if_written(word, segment):
    """What a segment does if the number that it heard is the one that is written."""
    is_it = ("same", box_named(word), ("number", segment.question[3]))
    return ("if", is_it, segment.term, STOP)


def _at_beats(script, use, terms, sort):
    """The term that is, at the beats of these pairs, what they tell, and never ends at others of the use."""
    if len(terms) == 0:
        return ("never", sort)
    keys = {beat: 0 for beat in use.beats}
    for number, pair in enumerate(terms):
        keys[pair[0]] = number + 1
    return chosen(script.words, keys, [("never", sort)] + [term for _, term in terms])


def _answer_term(told):
    """The term that tells an answer of the piece."""
    return ("number", told[-1]) if told[0] in ("num", "value") else SKIP


def _in_turn(deeds, term):
    """The deeds one behind the other, and then the term; in halves, so that it is not nested deep."""
    rows = list(deeds)
    while len(rows) > 1:
        pairs = [then(rows[at], rows[at + 1]) for at in range(0, len(rows) - 1, 2)]
        rows = pairs + rows[2 * len(pairs):]
    return then(rows[0], term) if len(rows) > 0 else term


def _broken_off(script, segments, uses):
    """The term that does all the play up to a break: a claim is wrong where the last segment is."""
    deed = FALSE
    while True:
        segment = segments.pop()
        term = _in_turn(segment.rows + [deed], ("never", _sort_of(script, segment.question)))
        if len(uses) == 0:
            return term
        segment.term = term
        use = uses.pop()
        use.segments.append(segment)
        deed = _unanswered(script, use)


def _unanswered(script, use):
    """The deed that asks a name, and never goes on if it is answered."""
    term = _use_term(script, use)
    if script.names[use.question[1]][1] == "num":
        return ("if", term, STOP, STOP)
    return ("then", term, STOP)


def _sort_of(script, question):
    """The plain sort of what the piece does for a question."""
    if question[0] == "ask":
        return script.kind if len(question) == 1 else script.names[question[1]][0][question[2]]
    return "num" if question[0] == "get" else "do"
