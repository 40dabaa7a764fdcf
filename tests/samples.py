"""What several tests need: terms by chance (of a fixed seed) and plain second ways to their meaning."""

import random

from playsalike.pieces import made_piece

NUM = ((), "num")
DO = ((), "do")
BOX = ((), "box")

# Values that are close to right ones of some kind, and values of all kinds.
ODD_VALUES = [
    None, True, False, 0, 1, -1, 1.0, 2.5, "", "a", "A", "num", "do", "box", "\u00e9", "a b",
    "abcdefghi", (), [], {}, ("a",), ["a"], ("num",), ["num"], ((), "num"), [(), "num"],
    ((), "nun"), (("num",), "box"), (("num", "do", "box", "num"), "do"), ("num", "num"),
    (("num",), "num", 1), b"a", object(), range(3), {"a": 1}, ("skip",), ["skip"], ("number", 0),
]


def name(word, *args):
    return ("name", word, args)


def number(n):
    return ("number", n)


SKIP = ("skip",)


def some(seed):
    return random.Random(seed)


def too_great(names, last=SKIP):
    """A deed over x and other names whose machine has more than 2000 states: it looks 1000 times at x."""
    term = last
    for _ in range(1000):
        term = ("then", ("if", name("x"), SKIP, SKIP), term)
    return made_piece(2, names, term, "do")


WORDS = ("a", "b", "c", "x", "y", "it", "zz")
TWOS = ("sum", "less", "same", "below")


def random_term(rng, size, names, sort, depth, claims=True):
    """A term of this plain sort, at most so deep."""
    if sort == "box":
        return random_box(rng, size, names, depth, claims)
    ways = ["plain", "name", "name"]
    if depth > 1:
        ways += ["own", "own", "own", "then", "if", "new"]
    way = rng.choice(ways)

    def sub(wanted, inner=names):
        return random_term(rng, size, inner, wanted, depth - 1, claims)

    if way == "name":
        use = random_use(rng, size, names, sort, depth, claims)
        way = "plain" if use is None else way
        if use is not None:
            return use
    if way == "plain":
        if rng.random() < 0.04:
            return ("never", sort)
        return number(rng.randrange(size)) if sort == "num" else SKIP
    if way == "then":
        return ("then", sub("do"), sub(sort))
    if way == "if":
        return ("if", sub("num"), sub(sort), sub(sort))
    if way == "new":
        word = rng.choice(WORDS)
        return ("new", word, rng.randrange(size), sub(sort, {**names, word: BOX}))
    if sort == "num":
        own = rng.choice(TWOS + ("not",) + (("get", "get") if depth > 2 or has_box(names) else ()))
        if own == "get":
            return ("get", sub("box"))
        return (own, sub("num")) if own == "not" else (own, sub("num"), sub("num"))
    owns = ["while"] + (["claim"] if claims else [])
    owns += ["set"] * 3 if depth > 2 or has_box(names) else []
    own = rng.choice(owns)
    if own == "claim":
        return ("claim", sub("num"))
    if own == "while":
        return ("while", sub("num"), sub("do"))
    return ("set", sub("box"), sub("num"))


def has_box(names):
    return any(sort == BOX for sort in names.values())


def random_box(rng, size, names, depth, claims):
    boxes = [word for word, sort in names.items() if sort == BOX]
    if boxes and (depth < 2 or rng.random() < 0.8):
        return name(rng.choice(boxes))
    if depth < 2:
        return ("made", number(0), "a", SKIP)  # one deeper than asked: of a box there is no less
    word = rng.choice(WORDS)
    return ("made", random_term(rng, size, names, "num", depth - 1, claims), word,
            random_term(rng, size, {**names, word: NUM}, "do", depth - 1, claims))


def random_use(rng, size, names, sort, depth, claims):
    """A use of a name that gives this sort, None if none can be."""
    words = [word for word, given in names.items()
             if given[1] == sort and (depth > 2 or not given[0])]
    if not words:
        return None
    word = rng.choice(words)
    return ("name", word, tuple(random_term(rng, size, names, plain, depth - 1, claims)
                                for plain in names[word][0]))


class Broken(Exception):
    pass


class Spent(Exception):
    pass


class Meaning:
    """A second plain evaluator, by calls within calls."""

    def __init__(self, size, limit):
        self.size = size
        self.limit = limit
        self.steps = 0

    def step(self):
        if self.steps == self.limit:
            raise Spent()
        self.steps += 1

    def of(self, term, env):
        self.step()
        word = term[0]
        if word == "number":
            return term[1]
        if word == "skip":
            return None
        if word == "never":
            raise Spent()
        if word == "name":
            return self.use(term, env)
        if word in TWOS:
            first, second = self.of(term[1], env), self.of(term[2], env)
            return {"sum": (first + second) % self.size, "less": (first - second) % self.size,
                    "same": int(first == second), "below": int(first < second)}[word]
        if word == "not":
            return int(self.of(term[1], env) == 0)
        if word == "then":
            self.of(term[1], env)
            return self.of(term[2], env)
        if word == "if":
            return self.of(term[2] if self.of(term[1], env) else term[3], env)
        if word == "while":
            while self.of(term[1], env):
                self.of(term[2], env)
            return None
        if word == "get":
            return self.read(term[1], env)
        if word == "set":
            worth = self.of(term[2], env)
            return self.write(term[1], worth, env)
        if word == "new":
            return self.of(term[3], {**env, term[1]: {"kept": term[2]}})
        assert word == "claim"
        if self.of(term[1], env) == 0:
            raise Broken()
        return None

    def use(self, term, env):
        return env[term[1]]

    def read(self, box, env):
        self.step()
        if box[0] == "name":
            return self.got(box[1], env)
        return self.of(box[1], env)

    def got(self, word, env):
        return env[word]["kept"]

    def write(self, box, worth, env):
        self.step()
        if box[0] == "name":
            self.let(box[1], worth, env)
        else:
            self.of(box[3], {**env, box[2]: worth})

    def let(self, word, worth, env):
        env[word]["kept"] = worth


def plain_meaning(piece, limit):
    """What evaluated should tell."""
    meaning = Meaning(piece.size, limit)
    try:
        worth = meaning.of(piece.term, {})
    except Broken:
        return ("broken", 0, meaning.steps)
    except Spent:
        return ("on", 0, limit)
    return (piece.kind, worth or 0, meaning.steps)


PART_PLACES = {
    "sum": (1, 2), "less": (1, 2), "same": (1, 2), "below": (1, 2), "not": (1,), "then": (1, 2),
    "if": (1, 2, 3), "while": (1, 2), "get": (1,), "set": (1, 2), "new": (3,), "made": (1, 3),
    "claim": (1,), "number": (), "skip": (), "never": (),
}


def term_parts(term):
    """The pairs of a path and a part of a term."""
    if term[0] == "name":
        return [((2, at), part) for at, part in enumerate(term[2])]
    return [((at,), term[at]) for at in PART_PLACES[term[0]]]


def count_nodes(term):
    return 1 + sum(count_nodes(part) for _, part in term_parts(term))


def depth_of(term):
    return 1 + max([depth_of(part) for _, part in term_parts(term)], default=0)


def every_place(term, at=()):
    found = [at]
    for path, part in term_parts(term):
        found += every_place(part, at + path)
    return found


def tagged(term, scope, tags):
    """The term with each own word exchanged for a tag of its own, and all free ones kept."""
    if term[0] == "name":
        word = scope.get(term[1], term[1])
        return ("name", word, tuple(tagged(part, scope, tags) for part in term[2]))
    if term[0] in ("new", "made"):
        own = term[1] if term[0] == "new" else term[2]
        tags.append(own)
        tag = ("tag", len(tags))
        inner = tagged(term[3], {**scope, own: tag}, tags)
        if term[0] == "new":
            return ("new", tag, term[2], inner)
        return ("made", tagged(term[1], scope, tags), tag, inner)
    things = list(term)
    for (at,), part in term_parts(term):
        things[at] = tagged(part, scope, tags)
    return tuple(things)


def put_tagged(term, table):
    """Of tagged terms: the bodies of table, pairs of parameters and a term, put in for names."""
    if term[0] == "name":
        args = tuple(put_tagged(part, table) for part in term[2])
        if term[1] not in table:
            return ("name", term[1], args)
        params, body = table[term[1]]
        return put_tagged(body, {word: ((), arg) for word, arg in zip(params, args)})
    things = list(term)
    for (at,), part in term_parts(term):
        things[at] = put_tagged(part, table)
    return tuple(things)


def leveled(term, scope=None, level=0):
    """The term with own words exchanged for how many stand around them: alike but for own words."""
    scope = scope or {}
    if term[0] == "name":
        return ("name", scope.get(term[1], term[1]),
                tuple(leveled(part, scope, level) for part in term[2]))
    if term[0] == "new":
        return ("new", level, term[2], leveled(term[3], {**scope, term[1]: level}, level + 1))
    if term[0] == "made":
        return ("made", leveled(term[1], scope, level), level,
                leveled(term[3], {**scope, term[2]: level}, level + 1))
    things = list(term)
    for (at,), part in term_parts(term):
        things[at] = leveled(part, scope, level)
    return tuple(things)


def put_by_tags(piece, table):
    """What comes of the piece with functions put in for names, own words told by levels."""
    tags = []
    bodies = {}
    for word, function in table.items():
        params = [param for param, _ in function.params]
        bodies[word] = (params, tagged(function.term, {}, tags))
    return leveled(put_tagged(tagged(piece.term, {}, tags), bodies))
