"""A second plain way to texts of pieces: a parser of whole texts that tries all ways, and writers that write otherwise."""

import re

from samples import BOX, NUM

KEPT = ("if", "then", "else", "while", "do", "new", "in", "claim", "not", "skip", "never")
# Signs of texts, and others.
EVERY = [chr(code) for code in range(128)] + ["\u00e9", "\u00b2", "\u00a0", "\u0660"]
TOKEN = re.compile(r" *([a-z]+|[0-9]|[|();,:=<+\-!{}'])")
BETWEEN = {"+": "sum", "-": "less", "=": "same", "<": "below"}
SIGNS = {word: sign for sign, word in BETWEEN.items()}


def tokens_of(text):
    """The list of tokens, None if it reads as none."""
    if re.search("[0-9][0-9]", text):
        return None
    found, at = [], 0
    while text[at:].strip(" "):
        match = TOKEN.match(text, at)
        if match is None:
            return None
        found.append(match.group(1))
        at = match.end()
    return found


def is_word(token):
    return re.fullmatch("[a-z]{1,8}", token) is not None


class Parser:
    """All ways in which tokens read: each part tells triples of where it ends, its term and its sort."""

    def __init__(self, tokens):
        self.tokens = tokens
        self.size = None

    def at(self, place, *wanted):
        return tuple(self.tokens[place:place + len(wanted)]) == wanted

    def token(self, place):
        return self.tokens[place] if place < len(self.tokens) else ""

    def whole(self, is_piece):
        """The size, names, parameters, term and sort of a text, None if it is none."""
        if not self.at(0, "size") or self.token(1) not in ("2", "3", "4"):
            return None
        self.size = int(self.token(1))
        place, names, params = 2, {}, ()
        while self.at(place, "|", "name"):
            word = self.token(place + 2)
            if not is_word(word) or names and word <= max(names) or len(names) == 4:
                return None
            plain = []
            place += 3
            while self.token(place) in ("num", "do", "box"):
                plain.append(self.token(place))
                place += 1
            if self.at(place, "to"):
                if not 1 <= len(plain) <= 3 or self.token(place + 1) not in ("num", "do"):
                    return None
                names[word] = (tuple(plain), self.token(place + 1))
                place += 2
            elif len(plain) == 1:
                names[word] = ((), plain[0])
            else:
                return None
        if not is_piece:
            if not self.at(place, "|", "takes"):
                return None
            place += 2
            while not self.at(place, "|"):
                word, plain = self.token(place), self.token(place + 1)
                if not is_word(word) or word in names or word in dict(params) or plain not in ("num", "do", "box") or len(params) == 3:
                    return None
                params += ((word, plain),)
                place += 2
        if not self.at(place, "|", "does"):
            return None
        scope = {**names, **{word: ((), plain) for word, plain in params}}
        ways = self.expression(place + 2, scope)
        if not is_piece and not params:
            ways += self.box(place + 2, scope)
        ends = [(term, sort) for end, term, sort in ways if end == len(self.tokens)]
        assert len(ends) < 2, ends
        return (self.size, names, params) + ends[0] if ends else None

    def expression(self, place, scope):
        if self.at(place, "new") and is_word(self.token(place + 1)) and self.at(place + 2, "=") and self.at(place + 4, "in"):
            word, figure = self.token(place + 1), self.token(place + 3)
            if not figure.isdigit() or int(figure) >= self.size:
                return []
            inner = self.expression(place + 5, {**scope, word: BOX})
            return [(end, ("new", word, int(figure), term), sort) for end, term, sort in inner]
        found = []
        for end, term, sort in self.part(place, scope):
            found.append((end, term, sort))
            if sort == "do" and self.at(end, ";"):
                found += [(last, ("then", term, other), kind) for last, other, kind in self.expression(end + 1, scope)]
        return found

    def part(self, place, scope):
        if self.at(place, "if"):
            found = []
            for first, test, sort in self.expression(place + 1, scope):
                if sort == "num" and self.at(first, "then"):
                    for second, one, kind in self.expression(first + 1, scope):
                        if self.at(second, "else"):
                            found += [(end, ("if", test, one, other), kind) for end, other,
                                      last in self.part(second + 1, scope) if last == kind]
            return found
        if self.at(place, "while"):
            return [(end, ("while", test, body), "do") for first, test, sort in self.expression(place + 1, scope)
                    if sort == "num" and self.at(first, "do") for end, body, kind in self.part(first + 1, scope)
                    if kind == "do"]
        if self.at(place, "claim"):
            return [(end, ("claim", term), "do") for end, term, sort in self.part(place + 1, scope) if sort == "num"]
        found = [(end, ("set", box, term), "do") for first, box, _ in self.box(place, scope) if self.at(first, ":", "=")
                 for end, term, sort in self.part(first + 2, scope) if sort == "num"]
        for end, term, sort in self.sums(place, scope):
            found.append((end, term, sort))
            if sort == "num" and self.token(end) in ("=", "<"):
                found += [(last, (BETWEEN[self.token(end)], term, other), "num") for last, other,
                          kind in self.sums(end + 1, scope) if kind == "num"]
        return found

    def sums(self, place, scope):
        found, ways = [], self.operand(place, scope)
        while ways:
            found += ways
            ways = [(last, (BETWEEN[self.token(end)], term, other), "num") for end, term, sort in ways
                    if sort == "num" and self.token(end) in ("+", "-")
                    for last, other, kind in self.operand(end + 1, scope) if kind == "num"]
        return found

    def operand(self, place, scope):
        token = self.token(place)
        if token == "not":
            return [(end, ("not", term), "num") for end, term, sort in self.operand(place + 1, scope) if sort == "num"]
        if token == "skip":
            return [(place + 1, ("skip",), "do")]
        if token == "never":
            kind = self.token(place + 1)
            return [(place + 2, ("never", kind), kind)] if kind in ("num", "do") else []
        if token == "!":
            return [(end, ("get", box), "num") for end, box, _ in self.box(place + 1, scope)]
        if token.isdigit():
            return [(place + 1, ("number", int(token)), "num")] if int(token) < self.size else []
        if token == "(":
            return [(end + 1, term, sort) for end, term, sort in self.expression(place + 1, scope) if self.at(end, ")")]
        word, end = self.named(place)
        if word not in scope or scope[word][1] == "box":
            return []
        args, given = scope[word]
        if not args:
            return [(end, ("name", word, ()), given)]
        return [(last, ("name", word, terms), given) for last, terms in self.arguments(end, args, scope)]

    def named(self, place):
        """The word of a name and where it ends; None if there is none."""
        if self.at(place, "'"):
            return self.token(place + 1), place + 2
        token = self.token(place)
        return (token, place + 1) if token not in KEPT else (None, place)

    def arguments(self, place, args, scope):
        ways = [(place, ())]
        for number, plain in enumerate(args):
            further = []
            for end, terms in ways:
                if self.at(end, "(" if number == 0 else ","):
                    parts = self.box(end + 1, scope) if plain == "box" else self.expression(end + 1, scope)
                    further += [(last, terms + (term,)) for last, term, sort in parts if sort == plain]
            ways = further
        return [(end + 1, terms) for end, terms in ways if self.at(end, ")")]

    def box(self, place, scope):
        if self.at(place, "{"):
            found = []
            for first, read, sort in self.expression(place + 1, scope):
                word = self.token(first + 1)
                if sort == "num" and self.at(first, ",") and is_word(word) and self.at(first + 2, ","):
                    inner = self.expression(first + 3, {**scope, word: NUM})
                    found += [(end + 1, ("made", read, word, body), "box") for end, body, kind in inner if kind == "do"
                              and self.at(end, "}")]
            return found
        word, end = self.named(place)
        return [(end, ("name", word, ()), "box")] if scope.get(word) == BOX else []


def read_by_all_ways(text, is_piece=True):
    tokens = tokens_of(text)
    return None if tokens is None else Parser(tokens).whole(is_piece)


def levels(term):
    return {"new": 0, "then": 0, "if": 1, "while": 1, "claim": 1, "set": 1, "same": 2, "below": 2, "sum": 3,
            "less": 3}.get(term[0], 4)


def written(rng, term, scope, level=0, more=0.2):
    """Tokens of a term, with more brackets and signs than there need be; scope tells what words mean."""
    is_box = term[0] == "made" or term[0] == "name" and scope[term[1]] == BOX
    if levels(term) < level or rng.random() < more and not is_box:
        return ["("] + written(rng, term, scope, 0, more) + [")"]

    def sub(part, wanted, inner=scope):
        return written(rng, part, inner, wanted, more)

    def box(part):
        if part[0] == "made":
            return ["{"] + sub(part[1], 0) + [",", part[2], ","] + sub(part[3], 0, {**scope, part[2]: NUM}) + ["}"]
        return use(part[1])

    def use(word):
        return ["'", word] if word in KEPT or rng.random() < more else [word]

    if is_box:
        return box(term)
    word = term[0]
    if word == "new":
        return ["new", term[1], "=", str(term[2]), "in"] + sub(term[3], 0, {**scope, term[1]: BOX})
    if word == "then":
        return sub(term[1], 1) + [";"] + sub(term[2], 0)
    if word == "if":
        return ["if"] + sub(term[1], 0) + ["then"] + sub(term[2], 0) + ["else"] + sub(term[3], 1)
    if word == "while":
        return ["while"] + sub(term[1], 0) + ["do"] + sub(term[2], 1)
    if word == "claim":
        return ["claim"] + sub(term[1], 1)
    if word == "set":
        return box(term[1]) + [":", "="] + sub(term[2], 1)
    if word in SIGNS:
        return sub(term[1], 3) + [SIGNS[word]] + sub(term[2], 4 if word in ("sum", "less") else 3)
    if word == "not":
        return ["not"] + sub(term[1], 4)
    if word == "get":
        return ["!"] + box(term[1])
    if word == "number":
        return [str(term[1])]
    if word in ("skip", "never"):
        return list(term)
    found = use(term[1])
    for at, (plain, part) in enumerate(zip(scope[term[1]][0], term[2])):
        found += ["(" if at == 0 else ","] + (box(part) if plain == "box" else sub(part, 0))
    return found + [")"] if term[2] else found


def expressions(size, scope, sort, many, level=0):
    """All rows of just so many tokens that read as an expression of this sort at this level, without '."""
    found = []
    if many < 1:
        return found

    def sub(kind, count, depth, inner=scope):
        return expressions(size, inner, kind, count, depth)

    def pairs(total, first, second):
        """Rows of two parts with so many tokens together; first and second tell those of one."""
        return [(one, other) for count in range(1, total) for one in first(count) for other in second(total - count)]

    if level == 0:
        found += [["new", "w", "=", str(n), "in"] + body for n in range(size)
                  for body in sub(sort, many - 5, 0, {**scope, "w": BOX})]
        found += [one + [";"] + other for one, other in pairs(many - 1, lambda n: sub("do", n, 1),
                                                              lambda n: sub(sort, n, 0))]
    if level <= 1:
        for first in range(1, many - 4):
            for one, other in pairs(many - 3 - first, lambda n: sub(sort, n, 0), lambda n: sub(sort, n, 1)):
                found += [["if"] + test + ["then"] + one + ["else"] + other for test in sub("num", first, 0)]
        if sort == "do":
            found += [["while"] + one + ["do"] + other for one, other in pairs(many - 2, lambda n: sub("num", n, 0),
                                                                               lambda n: sub("do", n, 1))]
            found += [["claim"] + one for one in sub("num", many - 1, 1)]
            found += [one + [":", "="] + other for one, other in pairs(many - 2, lambda n: boxes(size, scope, n),
                                                                       lambda n: sub("num", n, 1))]
    if level <= 2 and sort == "num":
        found += [one + [sign] + other for sign in "=<" for one, other in pairs(many - 1, lambda n: sub("num", n, 3),
                                                                                lambda n: sub("num", n, 3))]
    if level <= 3 and sort == "num":
        found += [one + [sign] + other for sign in "+-" for one, other in pairs(many - 1, lambda n: sub("num", n, 3),
                                                                                lambda n: sub("num", n, 4))]
    return found + operands(size, scope, sort, many)


def operands(size, scope, sort, many):
    found = [["("] + inner + [")"] for inner in expressions(size, scope, sort, many - 2)]
    if sort == "num":
        found += [["not"] + inner for inner in expressions(size, scope, "num", many - 1, 4)]
        found += [["!"] + box for box in boxes(size, scope, many - 1)]
        found += [[str(n)] for n in range(size)] if many == 1 else []
    elif many == 1:
        found.append(["skip"])
    if many == 2:
        found.append(["never", sort])
    for word, (args, given) in scope.items():
        if given == sort:
            found += [[word] + rest for rest in uses(size, scope, args, many - 1)]
    return found


def uses(size, scope, args, many):
    """All rows of just so many tokens that read as arguments of these sorts, with their brackets."""
    if not args:
        return [[]] if many == 0 else []
    rows = [(["("], many - 1)]
    for number, plain in enumerate(args):
        further = []
        for row, left in rows:
            for count in range(1, left):
                parts = boxes(size, scope, count) if plain == "box" else expressions(size, scope, plain, count)
                last = ")" if number == len(args) - 1 else ","
                further += [(row + part + [last], left - count - 1) for part in parts]
        rows = further
    return [row for row, left in rows if left == 0]


def boxes(size, scope, many):
    found = [[word] for word, sort in scope.items() if sort == BOX] if many == 1 else []
    for first in range(1, many - 5):
        for read in expressions(size, scope, "num", first):
            found += [["{"] + read + [",", "w", ","] + body + ["}"] for body in expressions(size, {**scope, "w": NUM},
                                                                                            "do", many - 5 - first)]
    return found


def spaced(rng, tokens):
    """A text of the tokens, with blanks wherever they like, and where they must."""
    text = " " * rng.choice((0, 0, 1))
    for at, token in enumerate(tokens):
        must = at > 0 and (tokens[at - 1].isalpha() and token.isalpha() or tokens[at - 1].isdigit() and token.isdigit())
        text += " " * rng.choice((1, 1, 2) if must else (0, 0, 1, 2) if at else (0,)) + token
    return text + " " * rng.choice((0, 0, 1))


def head(size, names, params=None):
    """The tokens ahead of the expression."""
    found = ["size", str(size)]
    for word in sorted(names):
        args, given = names[word]
        found += ["|", "name", word] + list(args) + (["to"] if args else []) + [given]
    if params is not None:
        found += ["|", "takes"]
        for word, plain in params:
            found += [word, plain]
    return found + ["|", "does"]
