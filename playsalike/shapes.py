"""How terms are put together: their parts, the words they give, their nodes and depth."""

from playsalike.sorts import BOX, NUMBER

SKIP = ("skip",)

# What stands behind the word of each term but "name"; some is num or do, alike the sort ahead.
FORMS = {
    "number": ("figure",),
    "skip": (),
    "never": ("ending",),
    "sum": ("num", "num"),
    "less": ("num", "num"),
    "same": ("num", "num"),
    "below": ("num", "num"),
    "not": ("num",),
    "then": ("do", "some"),
    "if": ("num", "some", "alike"),
    "while": ("num", "do"),
    "get": ("box",),
    "set": ("box", "num"),
    "new": ("word", "figure", "some"),
    "made": ("num", "word", "do"),
    "claim": ("num",),
}

# Where the parts of each term but "name" stand.
PARTS = {
    "number": (),
    "skip": (),
    "never": (),
    "sum": (1, 2),
    "less": (1, 2),
    "same": (1, 2),
    "below": (1, 2),
    "not": (1,),
    "then": (1, 2),
    "if": (1, 2, 3),
    "while": (1, 2),
    "get": (1,),
    "set": (1, 2),
    "new": (3,),
    "made": (1, 3),
    "claim": (1,),
}

# The plain sorts of those terms whose word alone tells it.
GIVEN = {
    "number": "num",
    "skip": "do",
    "sum": "num",
    "less": "num",
    "same": "num",
    "below": "num",
    "not": "num",
    "while": "do",
    "get": "num",
    "set": "do",
    "made": "box",
    "claim": "do",
}


def part_paths(term):
    """The indexes that lead from a term to its parts, from left to right."""
    if term[0] == "name":
        return [(2, at) for at in range(len(term[2]))]
    return [(at,) for at in PARTS[term[0]]]


def parts_of(term):
    """The parts of a term, from left to right."""
    if term[0] == "name":
        return list(term[2])
    return [term[at] for at in PARTS[term[0]]]


def with_parts(term, parts):
    """The term with these parts in the place of its own ones."""
    if term[0] == "name":
        return ("name", term[1], tuple(parts))
    things = list(term)
    for at, part in zip(PARTS[term[0]], parts):
        things[at] = part
    return tuple(things)


def given_word(term, number):
    """The word that a term gives within its part of this number, None if it gives none there."""
    if term[0] == "new":
        return term[1]
    if term[0] == "made" and number == 1:
        return term[2]
    return None


def with_given_word(term, word):
    """The "new" or "made" term with another word that it gives, its parts as they are."""
    if term[0] == "new":
        return ("new", word, term[2], term[3])
    return ("made", term[1], word, term[3])


def names_within(names, term, number):
    """What words mean within the part of this number, if names tell what they mean outside."""
    word = given_word(term, number)
    if word is None:
        return names
    return {**names, word: BOX if term[0] == "new" else NUMBER}


def plain_sort(names, term):
    """The plain sort of a term that is known to be one."""
    while term[0] in ("then", "if", "new"):
        term = term[-1]
    if term[0] == "name":
        return names[term[1]][1]
    if term[0] == "never":
        return term[1]
    return GIVEN[term[0]]


# Terms may be nested deeper than calls can be: so the next ones keep what waits in a list.

def all_parts(term):
    """The list of pairs of a place and the part there, of all parts of a term, itself ahead."""
    found = []
    waiting = [((), term)]
    while waiting:
        at, part = waiting.pop()
        found.append((at, part))
        for path in reversed(part_paths(part)):
            waiting.append((at + path, part_along(part, path)))
    return found


def part_along(term, path):
    """What the indexes of path lead to."""
    for at in path:
        term = term[at]
    return term


def with_part_along(term, path, part):
    """The term with this part in the place to which the indexes of path lead."""
    around = []
    for index in path:
        around.append((index, term))
        term = term[index]
    for index, whole in reversed(around):
        part = whole[:index] + (part,) + whole[index + 1:]
    return part


def measures(term):
    """The pair of the number of nodes of a term and how deep it is."""
    nodes = 0
    deepest = 0
    waiting = [(term, 1)]
    while waiting:
        part, depth = waiting.pop()
        nodes += 1
        deepest = max(deepest, depth)
        for inner in parts_of(part):
            waiting.append((inner, depth + 1))
    return nodes, deepest


def has_claim(term):
    """Whether a claim stands in a term."""
    waiting = [term]
    while waiting:
        part = waiting.pop()
        if part[0] == "claim":
            return True
        waiting.extend(parts_of(part))
    return False


def free_words(term):
    """The ascending list of the words that stand free in a term."""
    return sorted(free_counts(term))


def free_counts(term):
    """The dict from the words that stand free in a term to how often they do."""
    found = {}
    waiting = [(term, {})]
    while waiting:
        part, given = waiting.pop()
        if part[0] == "name" and part[1] not in given:
            found[part[1]] = found.get(part[1], 0) + 1
        for number, inner in enumerate(parts_of(part)):
            word = given_word(part, number)
            waiting.append((inner, given if word is None else {**given, word: True}))
    return found
