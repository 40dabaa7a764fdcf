"""What tests of places in terms need: sorts of parts, free uses, words given around, parts exchanged."""

from samples import BOX, term_parts


def own_of(term):
    return term[1] if term[0] == "new" else term[2]


def sort_in(names, term):
    if term[0] == "name":
        return names[term[1]][1]
    if term[0] in ("then", "if"):
        return sort_in(names, term[-1])
    if term[0] == "new":
        return sort_in({**names, term[1]: BOX}, term[3])
    return {"made": "box", "never": term[-1], "skip": "do", "while": "do", "set": "do",
            "claim": "do"}.get(term[0], "num")


def free_uses(term, own=()):
    found = [term] if term[0] == "name" and term[1] not in own else []
    for path, part in term_parts(term):
        inner = own + ((own_of(term),) if term[0] in ("new", "made") and path == (3,) else ())
        found += free_uses(part, inner)
    return found


def own_at(one, at):
    """The words that terms around the place give there."""
    found, term, left = [], one.term, list(at)
    while left:
        step = left.pop(0)
        if term[0] == "name":
            term = term[2][left.pop(0)]
            continue
        if term[0] == "new" and step == 3:
            found.append(term[1])
        if term[0] == "made" and step == 3:
            found.append(term[2])
        term = term[step]
    return found


def changed(term, at, change):
    if not at:
        return change(term)
    things = list(term)
    if term[0] == "name":
        args = list(term[2])
        args[at[1]] = changed(args[at[1]], at[2:], change)
        return term[:2] + (tuple(args),)
    things[at[0]] = changed(term[at[0]], at[1:], change)
    return tuple(things)


def put_by(term, table, own=()):
    """The term with terms in the place of its free words, words of its own as they are."""
    if term[0] == "name" and term[1] not in own:
        return table[term[1]]
    things = list(term)
    for path, part in term_parts(term):
        inner = own + ((own_of(term),) if term[0] in ("new", "made") and path == (3,) else ())
        things[path[0]] = put_by(part, table, inner)
    return tuple(things)
