"""Expressions that are begun: what stands in them so far, and what may come next."""

from playsalike.sorts import BOX


class Frame:
    """An expression that is begun: where it stands, which plain sorts it may have, what words mean.

    kind tells what it is a part of: outer is the frame around, info what is known of the term
    there. In it stand done, what is ahead of its last part (A, ahead of ";" and "in"); chain, what
    this part begins with (words, the sort wanted behind, and the parts of the term); left, what
    waits for the next operand; and the last operand, a pair of a term and its sort.
    """

    def __init__(self, kind, outer, wants, scope, info):
        self.kind = kind
        self.outer = outer
        self.wants = wants
        self.scope = scope
        self.info = info
        self.done = []
        self.chain = []
        self.left = []
        self.operand = None

    def with_rows(self, done, chain, left, operand):
        """The same expression with this standing in it."""
        other = Frame(self.kind, self.outer, self.wants, self.scope, self.info)
        other.done = done
        other.chain = chain
        other.left = left
        other.operand = operand
        return other

    def allowed(self):
        """The plain sorts that the next operand may have: behind a deed there may be more."""
        if len(self.left) > 0:
            return ("num",)
        if len(self.chain) > 0:
            return (self.chain[-1][1],)
        return self.wants if "do" in self.wants else self.wants + ("do",)

    def plain_allowed(self):
        """As allowed, without boxes."""
        return tuple([sort for sort in self.allowed() if sort != "box"])

    def may_set(self):
        """Whether the next operand may be a box that is set."""
        return len(self.left) == 0 and "do" in self.allowed()

    def names_ahead(self):
        """The list of the names that may be the next operand, or begin it."""
        allowed = self.allowed()
        return [word for word, sort in self.scope.items()
                if sort[1] in allowed or sort[1] == "box" and self.may_set()]

    def boxes_ahead(self):
        """The list of the boxes that may be the next operand of a box."""
        return [word for word, sort in self.scope.items() if sort == BOX]

    def sort_behind(self):
        """The plain sort of the last part, if the last operand ends it."""
        if len(self.chain) > 0:
            return self.chain[0][1] if self.chain[0][0] == "if" else "do"
        return self.operand[1]

    def last_part(self):
        """The term of the last part, which the last operand ends."""
        term = self.operand[0]
        if len(self.left) > 0:
            term = (self.left[0][0], self.left[0][1], term)
        for link in self.chain[::-1]:
            term = (link[0],) + tuple(link[2:]) + (term,)
        return term

    def whole_term(self):
        """The term of the whole expression, which the last operand ends."""
        term = self.last_part()
        for row in self.done[::-1]:
            term = row + (term,)
        return term
