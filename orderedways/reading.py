"""How a node reads a text: what comes of it, and of all that it asks on the way.

What comes of a node at a place is told as the place behind what it takes, or FAILED.
"""

from orderedways.grammar import AGAIN, ANY_BYTE, BOTH, BYTE_BETWEEN, EITHER, LARGEST_BYTE, NO_BYTE, NOT_AHEAD, RULE_USE

FAILED = -2


class Reading:
    """One text, and one node of a sound grammar that is asked at its place 0.

    known keeps what came of each node and place that was asked, under (node, place).
    The same comes of them each time, so they are asked only once: else the time could
    double with each node. waiting keeps those under way, each asked by the one before.
    """

    def __init__(self, grammar, text, start):
        self.grammar = grammar
        self.text = text
        self.start = start
        self.known = {}
        self.waiting = [start]

    def go_on(self):
        """Ends the last one under way, or puts behind it the one that it waits for."""
        asked = self.waiting[-1]
        behind = self.ask(asked[0], asked[1])
        if behind is not None:
            self.known[asked] = behind
            self.waiting.pop()

    def ask(self, number, place):
        """What comes of the node there; None if it waits for another one."""
        node = self.grammar.nodes[number]
        if node.kind == NO_BYTE:
            return place
        if node.kind == ANY_BYTE:
            return self.ask_byte(0, LARGEST_BYTE, place)
        if node.kind == BYTE_BETWEEN:
            return self.ask_byte(node.a, node.b, place)
        if node.kind == BOTH:
            return self.ask_both(node, place)
        if node.kind == EITHER:
            return self.ask_either(node, place)
        if node.kind == AGAIN:
            return self.ask_again(node, place)
        if node.kind == NOT_AHEAD:
            return self.ask_not_ahead(node, place)
        return self.come_of(self.grammar.rules[node.a], place)

    def come_of(self, number, place):
        """What came of the node there; None if it's not known, and then it is under way."""
        asked = (number, place)
        if asked in self.known:
            return self.known[asked]
        self.waiting.append(asked)
        return None

    def ask_byte(self, low, high, place):
        if place < len(self.text) and low <= self.text[place] <= high:
            return place + 1
        return FAILED

    def ask_both(self, node, place):
        middle = self.come_of(node.a, place)
        if middle is None or middle == FAILED:
            return middle
        return self.come_of(node.b, middle)

    def ask_either(self, node, place):
        first = self.come_of(node.a, place)
        if first == FAILED:
            return self.come_of(node.b, place)
        return first

    def ask_again(self, node, place):
        # It comes to an end: in a sound grammar what is asked again never takes nothing.
        reached = place
        behind = self.come_of(node.a, reached)
        while behind is not None and behind != FAILED:
            reached = behind
            behind = self.come_of(node.a, reached)
        return None if behind is None else reached

    def ask_not_ahead(self, node, place):
        behind = self.come_of(node.a, place)
        if behind is None:
            return None
        return place if behind == FAILED else FAILED

    def outcome(self):
        """How many bytes are taken in all, or FAILED."""
        return self.known[self.start]

    def count_rules_asked(self):
        """At how many pairs of a rule and a place a node of kind 7 was asked."""
        nodes = self.grammar.nodes
        pairs = [(nodes[number].a, place) for number, place in self.known if nodes[number].kind == RULE_USE]
        return len(set(pairs))


def read_text(grammar, rule, text):
    """The reading of the text by the node of the rule, come to its end."""
    reading = Reading(grammar, text, (grammar.rules[rule], 0))
    while reading.waiting:
        reading.go_on()
    return reading
