"""Second plain ways to the plays of pieces: rows put together as point 32 tells, and a recursive player."""

from functools import reduce

from playsalike.chains import again, behind
from playsalike.functions import function_moves
from playsalike.joins import joined
from playsalike.leaving import kept_by, left_out
from playsalike.machines import Machine, widened
from playsalike.makers import empty, just, nothing
from playsalike.moves import moves_of
from playsalike.pieces import Function, Piece
from samples import BOX, DO, NUM, TWOS, Broken, Meaning, Spent, count_nodes, depth_of, random_term

NO_ROW, NO_MOVE = nothing([]), empty([])

# Names of several sorts, from which pieces by chance get theirs.
SORTS = [NUM, DO, BOX, (("num",), "num"), (("do",), "do"), (("box",), "do"), (("num", "box"), "num"),
         (("do",), "num"), (("num",), "do"), (("box", "num", "do"), "num")]


def random_names(rng, most=3, sorts=SORTS):
    return {word: rng.choice(sorts) for word in rng.sample(("f", "g", "v", "x", "a"), rng.randint(0, most))}


def random_piece(rng, depth, most=3, size=None, names=None, claims=True, sorts=SORTS, nodes=8, kind=None):
    """A piece of at most 60 nodes, and of at least so many."""
    while True:
        told = random_names(rng, most, sorts) if names is None else names
        given = size or rng.choice((2, 2, 2, 3, 4))
        term = random_term(rng, given, told, kind or rng.choice(("num", "do")), depth, claims)
        if nodes <= count_nodes(term) <= 60 and depth_of(term) <= 12:
            return Piece(given, told, term)


def one(*moves):
    return just(sorted(set(moves), key=moves.index), list(moves))


def any_of(*machines):
    return reduce(joined, machines, NO_ROW)


def in_turn(*machines):
    return reduce(behind, machines, NO_MOVE)


class Rows:
    """The middles of terms, as machines."""

    def __init__(self, piece):
        self.size = piece.size
        self.names = piece.names
        self.boxes = 0

    def middles(self, term, scope):
        """A list of machines by number, or one for a deed, and that of broken middles."""
        word = term[0]
        numbers = range(self.size)
        if word == "number":
            return [NO_MOVE if n == term[1] else NO_ROW for n in numbers], NO_ROW
        if word == "skip":
            return NO_MOVE, NO_ROW
        if word == "never":
            return ([NO_ROW for _ in numbers] if term[1] == "num" else NO_ROW), NO_ROW
        if word == "name":
            if term[1] in scope:
                return [NO_MOVE if n == scope[term[1]] else NO_ROW for n in numbers], NO_ROW
            return self.call(term, scope)
        if word == "new":
            return self.new(term, scope)
        if word == "get":
            return self.box(term[1], scope)[:2]
        first, first_broken = self.middles(term[2] if word == "set" else term[1], scope)
        if word == "claim":
            return any_of(*first[1:]), any_of(first_broken, in_turn(first[0], one(("break",))))
        if word == "not":
            return [any_of(*first[1:]), first[0]] + [NO_ROW] * (self.size - 2), first_broken
        if word == "set":
            _, _, written, written_broken = self.box(term[1], scope)
            return (any_of(*[in_turn(first[n], written[n]) for n in numbers]),
                    any_of(first_broken, *[in_turn(first[n], written_broken[n]) for n in numbers]))
        second, second_broken = self.middles(term[2], scope)
        if word == "then":
            return self.behind(first, second), any_of(first_broken, in_turn(first, second_broken))
        if word in TWOS:
            found = [NO_ROW for _ in numbers]
            for i in numbers:
                for j in numbers:
                    n = {"sum": (i + j) % self.size, "less": (i - j) % self.size, "same": int(i == j),
                         "below": int(i < j)}[word]
                    found[n] = any_of(found[n], in_turn(first[i], second[j]))
            return found, any_of(first_broken, in_turn(any_of(*first), second_broken))
        held = any_of(*first[1:])
        if word == "while":
            rounds = again(in_turn(held, second))
            return (in_turn(rounds, first[0]),
                    in_turn(rounds, any_of(first_broken, in_turn(held, second_broken))))
        assert word == "if"
        third, third_broken = self.middles(term[3], scope)
        kept, others = self.behind(held, second), self.behind(first[0], third)
        found = [any_of(*pair) for pair in zip(kept, others)] if isinstance(kept, list) else any_of(kept, others)
        return found, any_of(first_broken, in_turn(held, second_broken), in_turn(first[0], third_broken))

    def behind(self, ahead, found):
        return [in_turn(ahead, row) for row in found] if isinstance(found, list) else in_turn(ahead, found)

    def call(self, term, scope):
        w, (args, sort) = term[1], self.names[term[1]]
        exchanges, broken = [], []
        for i, (plain, arg) in enumerate(zip(args, term[2])):
            if plain == "box":
                read, read_broken, written, written_broken = self.box(arg, scope)
                broken.append(in_turn(one(("get", w, i)), read_broken))
                for n in range(self.size):
                    exchanges.append(in_turn(one(("get", w, i)), read[n], one(("value", w, i, n))))
                    exchanges.append(in_turn(one(("set", w, i, n)), written[n], one(("kept", w, i))))
                    broken.append(in_turn(one(("set", w, i, n)), written_broken[n]))
                continue
            found, arg_broken = self.middles(arg, scope)
            broken.append(in_turn(one(("ask", w, i)), arg_broken))
            if plain == "do":
                exchanges.append(in_turn(one(("ask", w, i)), found, one(("did", w, i))))
            else:
                exchanges += [in_turn(one(("ask", w, i)), found[n], one(("num", w, i, n))) for n in range(self.size)]
        begun = in_turn(one(("call", w)), again(any_of(*exchanges)))
        if sort == "do":
            return in_turn(begun, one(("did", w))), in_turn(begun, any_of(*broken))
        return [in_turn(begun, one(("num", w, n))) for n in range(self.size)], in_turn(begun, any_of(*broken))

    def box(self, term, scope):
        """Rows with which it is read, by number, broken ones, and the same for writing (broken by number too)."""
        numbers = range(self.size)
        if term[0] == "name":
            w = scope.get(term[1], term[1])
            return ([one(("get", w), ("value", w, n)) for n in numbers], NO_ROW,
                    [one(("set", w, n), ("kept", w)) for n in numbers], [NO_ROW for _ in numbers])
        read, read_broken = self.middles(term[1], scope)
        written = [self.middles(term[3], {**scope, term[2]: n}) for n in numbers]
        return read, read_broken, [found for found, _ in written], [broken for _, broken in written]

    def new(self, term, scope):
        self.boxes += 1
        w = "own" + "abcdefghijklmnopqrstuvwxyz"[self.boxes // 26] + "abcdefghijklmnopqrstuvwxyz"[self.boxes % 26]
        found, broken = self.middles(term[3], {**scope, term[1]: w})
        keeps = kept_box(w, term[2], self.size)

        def without(machine):
            return left_out(kept_by(machine, keeps), keeps.letters)

        return ([without(row) for row in found] if isinstance(found, list) else without(found)), without(broken)


def kept_box(w, first, size):
    """The machine of the moves of a box that keeps first ahead of all."""
    letters = [("get", w), ("kept", w)] + [("set", w, n) for n in range(size)] + [("value", w, n) for n in range(size)]
    ways = [[(0, size + n)] + [(2 + m, 2 * size + m) for m in range(size)] for n in range(size)]
    ways += [[(2 + size + n, n)] for n in range(size)]
    ways += [[(1, n)] for n in range(size)]
    order = [first] + [n for n in range(3 * size) if n != first]
    numbers = {old: new for new, old in enumerate(order)}
    told = [[(k, numbers[goal]) for k, goal in ways[old]] for old in order]
    return Machine(letters, told, sorted(numbers[n] for n in range(size)))


def machine_by_rows(piece):
    """The machine of the ended plays, put together from rows as point 32 tells."""
    found, broken = Rows(piece).middles(piece.term, {})
    if piece.kind == "num":
        ended = any_of(*[in_turn(found[n], one(("num", n))) for n in range(piece.size)])
    else:
        ended = in_turn(found, one(("do",)))
    return widened(in_turn(one(("ask",)), any_of(ended, broken)), moves_of(piece))


def machine_of_function_by_rows(function):
    """The machine of the ended plays of a function, put together from rows as points 32 and 35 tell."""
    told = Over(function)
    rows = Rows(told)
    if function.kind != BOX:
        found, broken = rows.middles(function.term, {})
        numbers = range(function.size)
        ended = (in_turn(found, one(("do",))) if function.kind[1] == "do" else
                 any_of(*[in_turn(found[n], one(("num", n))) for n in numbers]))
        return widened(in_turn(one(("ask",)), any_of(ended, broken)), function_moves(function))
    read, read_broken, written, written_broken = rows.box(function.term, {})
    every = [in_turn(one(("get",)), read_broken)]
    for n in range(function.size):
        every.append(in_turn(one(("get",)), read[n], one(("value", n))))
        every.append(in_turn(one(("set", n)), any_of(in_turn(written[n], one(("kept",))), written_broken[n])))
    return widened(any_of(*every), function_moves(function))


class Over:
    """What stands for a function as a piece: its parameters are names."""

    def __init__(self, function):
        self.size = function.size
        self.names = {**function.names, **{word: ((), plain) for word, plain in function.params}}


def random_function(rng, size, sort, names, depth=4, claims=True, params=("p", "q", "r")):
    """A function of this sort, with some of these names, at most four, that are no parameters."""
    told = tuple(zip(params, sort[0]))
    free = [word for word in sorted(names) if word not in [param for param, _ in told]]
    own = {word: names[word] for word in rng.sample(free, rng.randint(0, min(4, len(free))))}
    while True:
        term = random_term(rng, size, {**own, **{word: ((), plain) for word, plain in told}}, sort[1], depth, claims)
        if count_nodes(term) <= 60 and depth_of(term) <= 12:
            return Function(size, own, told, term)


class Waits(Exception):
    """What is heard has come to its end."""


class Player(Meaning):
    """Plays a piece by calls within calls: what is heard is told ahead."""

    def __init__(self, piece, heard, limit=4000):
        super().__init__(piece.size, limit)
        self.piece = piece
        self.heard = list(heard)
        self.row = []

    def tell(self, move):
        self.row.append(move)
        return self.hear()

    def hear(self):
        if not self.heard:
            raise Waits()
        self.row.append(self.heard.pop(0))
        return self.row[-1]

    def played(self):
        """How it is behind all that is heard, its moves, and steps."""
        try:
            self.hear()
            worth = self.of(self.piece.term, {})
        except Waits:
            return "waits" if self.row else "new", self.row, self.steps
        except Broken:
            return "broken", self.row + [("break",)], self.steps
        except Spent:
            return "lost", self.row, None
        return "ended", self.row + [("do",) if worth is None else ("num", worth)], self.steps

    def use(self, term, env):
        return env[term[1]] if term[1] in env else self.call(term, env)

    def got(self, word, env):
        return super().got(word, env) if word in env else self.tell(("get", word))[2]

    def let(self, word, worth, env):
        if word in env:
            super().let(word, worth, env)
        else:
            self.tell(("set", word, worth))

    def call(self, term, env):
        w, (args, _) = term[1], self.piece.names[term[1]]
        move = self.tell(("call", w))
        while move[0] in ("ask", "get", "set"):
            i = move[2]
            if move[0] == "get":
                answer = ("value", w, i, self.read(term[2][i], env))
            elif move[0] == "set":
                self.write(term[2][i], move[3], env)
                answer = ("kept", w, i)
            else:
                worth = self.of(term[2][i], env)
                answer = ("did", w, i) if args[i] == "do" else ("num", w, i, worth)
            move = self.tell(answer)
        return move[2] if move[0] == "num" else None


def can_come(piece, row):
    """What can be heard behind a row of moves whose last one is told, in any sequence."""
    waits = []
    for move in row:
        if move[0] in ("ask", "call", "get", "set"):
            waits.append(move)
        else:
            waits.pop()
    size, last = piece.size, waits[-1]
    if last[0] == "get":
        return [("value", last[1], n) for n in range(size)]
    if last[0] == "set":
        return [("kept", last[1])]
    w, (args, sort) = last[1], piece.names[last[1]]
    found = [("did", w)] if sort == "do" else [("num", w, n) for n in range(size)]
    for i, plain in enumerate(args):
        found += [("get", w, i)] + [("set", w, i, n) for n in range(size)] if plain == "box" else [("ask", w, i)]
    return found


def plays_by_player(piece, most):
    """The set of the plays of at most so many moves that end or break."""
    found, heard = set(), [[("ask",)]] if most > 1 else []
    while heard:
        ahead = heard.pop()
        word, row, _ = Player(piece, ahead).played()
        if word in ("ended", "broken"):
            found.add(tuple(row))
        if word == "waits" and len(row) + 2 <= most:
            heard += [ahead + [move] for move in can_come(piece, row)]
    return found
