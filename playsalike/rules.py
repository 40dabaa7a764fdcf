"""Rules: pairs of pieces of which the right one may stand where the left one fits."""

from playsalike.alike import same
from playsalike.errors import BadRule
from playsalike.pieces import check_piece
from playsalike.shapes import free_words


class Rule:
    """A rule: two pieces over the same holes, the right one without holes that left has not."""

    def __init__(self, left, right):
        check_piece(left)
        check_piece(right)
        if left.size != right.size:
            raise BadRule("size")
        if left.names != right.names or any([len(taken) > 0 for taken, _ in left.names.values()]):
            raise BadRule("names")
        if left.kind != right.kind:
            raise BadRule("sort")
        free = free_words(left.term)
        if not all([word in free for word in free_words(right.term)]):
            raise BadRule("holes")
        self.left = left
        self.right = right

    def __eq__(self, other):
        return isinstance(other, Rule) and self.left == other.left and self.right == other.right


def check_rule(rule):
    """Raises BadRule(None) unless rule is a Rule."""
    if not isinstance(rule, Rule):
        raise BadRule(None)


def is_right(rule):
    """Whether left and right do the same."""
    check_rule(rule)
    return same(rule.left, rule.right)
