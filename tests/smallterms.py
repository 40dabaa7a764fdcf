"""A second plain way to all small terms: put together by hand, head by head."""

from samples import BOX, NUM, TWOS, name


def first_word(names):
    return next(word for word in "abcdefghijklmnopqrstuvwxyz" if word not in names)


def exactly(size, names, sort, nodes):
    """All terms of this plain sort of just so many nodes, in no sequence."""
    found = []
    if nodes < 1:
        return found

    def of(wanted, many, inner=names):
        return exactly(size, inner, wanted, many)

    if nodes == 1:
        if sort == "num":
            found += [("number", n) for n in range(size)]
        if sort == "do":
            found.append(("skip",))
        if sort != "box":
            found.append(("never", sort))
    for word, (args, given) in names.items():
        if given == sort:
            found += [name(word, *parts) for parts in rows(size, names, args, nodes - 1)]
    if sort == "num":
        found += [(word, a, b) for word in TWOS for a, b in rows(size, names, ("num", "num"), nodes - 1)]
        found += [("not", a) for a in of("num", nodes - 1)]
        found += [("get", a) for a in of("box", nodes - 1)]
    if sort == "do":
        found += [("while", a, b) for a, b in rows(size, names, ("num", "do"), nodes - 1)]
        found += [("set", a, b) for a, b in rows(size, names, ("box", "num"), nodes - 1)]
        found += [("claim", a) for a in of("num", nodes - 1)]
    word = first_word(names)
    if sort == "box":
        for many in range(1, nodes - 1):
            for a in of("num", many):
                found += [("made", a, word, b) for b in of("do", nodes - 1 - many, {**names, word: NUM})]
        return found
    found += [("then", a, b) for a, b in rows(size, names, ("do", sort), nodes - 1)]
    found += [("if", a, b, c) for a, b, c in rows(size, names, ("num", sort, sort), nodes - 1)]
    for n in range(size):
        found += [("new", word, n, a) for a in of(sort, nodes - 1, {**names, word: BOX})]
    return found


def rows(size, names, sorts, nodes):
    """All rows of terms of these sorts with just so many nodes together."""
    if not sorts:
        return [()] if nodes == 0 else []
    return [(first,) + others for many in range(1, nodes + 1) for first in exactly(size, names, sorts[0], many)
            for others in rows(size, names, sorts[1:], nodes - many)]


def up_to(size, names, sort, nodes):
    """All terms of at most so many nodes, as all_terms should list them."""
    return [term for many in range(1, nodes + 1) for term in sorted(exactly(size, names, sort, many))]
