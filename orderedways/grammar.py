"""The grammar that is kept: its nodes, and which node each rule has."""

MOST_NODES = 64
RULE_COUNT = 16
LARGEST_BYTE = 255

NO_BYTE = 0
ANY_BYTE = 1
BYTE_BETWEEN = 2
BOTH = 3
EITHER = 4
AGAIN = 5
NOT_AHEAD = 6
RULE_USE = 7

NO_SUCH = -1
FULL = -2


class Node:
    """One node: its kind, and the a and b that the kind asks for."""

    def __init__(self, kind, a, b):
        self.kind = kind
        self.a = a
        self.b = b


class Grammar:
    """Nodes numbered from 0 on, and for each rule its node's number or None."""

    def __init__(self):
        self.nodes = []
        self.rules = [None] * RULE_COUNT

    def has_node(self, number):
        return 0 <= number < len(self.nodes)

    def has_rule(self, rule):
        """Whether there is such a rule, and it has a node."""
        return is_rule(rule) and self.rules[rule] is not None

    def fits(self, kind, a, b):
        """Whether there is such a kind, and a and b are what it asks for."""
        if kind == NO_BYTE or kind == ANY_BYTE:
            return True
        if kind == BYTE_BETWEEN:
            return 0 <= a <= b <= LARGEST_BYTE
        if kind == BOTH or kind == EITHER:
            return self.has_node(a) and self.has_node(b)
        if kind == AGAIN or kind == NOT_AHEAD:
            return self.has_node(a)
        return kind == RULE_USE and is_rule(a)

    def add_node(self, kind, a, b):
        """The new node's number, or a refusal."""
        if not self.fits(kind, a, b):
            return NO_SUCH
        if len(self.nodes) >= MOST_NODES:
            return FULL
        self.nodes.append(Node(kind, a, b))
        return len(self.nodes) - 1

    def set_rule(self, rule, number):
        """0, or a refusal."""
        if not is_rule(rule) or not self.has_node(number):
            return NO_SUCH
        self.rules[rule] = number
        return 0


def is_rule(number):
    return 0 <= number < RULE_COUNT
