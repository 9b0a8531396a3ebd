"""Points 4 to 6 again: against a second reading of the words, which asks each node anew each time."""

import random
import unittest

from tests.helpers import ask_of, asked, take, uses
from tests.test_sound_by_facts import small_grammars, sound_by_facts

MOST_STEPS = 4000


class TooManySteps(Exception):
    """The grammar asks too often for a reading without anything kept."""


class PlainReading:
    """A reading by the words alone; heard keeps each (rule, place) that a node of kind 7 was asked for."""

    def __init__(self, nodes, rules, text):
        self.nodes = nodes
        self.owners = dict(rules)
        self.text = text
        self.heard = set()
        self.steps = 0

    def ask(self, e, place):
        """How many bytes are taken and by which uses, or None where it fails."""
        self.steps += 1
        if self.steps > MOST_STEPS:
            raise TooManySteps
        kind, a, b = self.nodes[e]
        if kind == 0:
            return 0, []
        if kind == 1:
            return (1, []) if self.text[place:] else None
        if kind == 2:
            return (1, []) if self.text[place:] and self.text[place] in range(a, b + 1) else None
        if kind == 3:
            return self.ask_in_turn(a, b, place)
        if kind == 4:
            first = self.ask(a, place)
            return self.ask(b, place) if first is None else first
        if kind == 5:
            return self.ask_again(a, place)
        if kind == 6:
            return (0, []) if self.ask(a, place) is None else None
        return self.ask_rule(a, place)

    def ask_in_turn(self, a, b, place):
        first = self.ask(a, place)
        second = None if first is None else self.ask(b, place + first[0])
        return None if second is None else (first[0] + second[0], first[1] + second[1])

    def ask_again(self, a, place):
        size, told = 0, []
        while (once := self.ask(a, place + size)) is not None:
            size, told = size + once[0], told + once[1]
        return size, told

    def ask_rule(self, r, place):
        self.heard.add((r, place))
        came = self.ask(self.owners[r], place)
        if came is None or came[0] == 0:
            return came
        return came[0], [(r, place, place + came[0])] + came[1]


def told_by_words(nodes, rules, r, text, most):
    """What take, uses and asked answer of rule r."""
    owners = dict(rules)
    if r not in owners:
        return [[-1], [-1], [-1]]
    if not sound_by_facts(nodes, rules):
        return [[-3], [-3], [-3]]
    reading = PlainReading(nodes, rules, text)
    came = reading.ask(owners[r], 0)
    if came is None:
        return [[-2], [-2], [len(reading.heard)]]
    numbers = [number for use in came[1] for number in use]
    first = numbers[:most] if 1 <= most <= 12288 else []
    return [[came[0]], [len(numbers)] + first, [len(reading.heard)]]


def drawn_grammar(draw):
    """Nodes and rules; most of those drawn are sound."""
    size = draw.choice((4, 6, 9, 14, 24))
    rule_count = min(size, draw.choice((1, 2, 3, 5)))
    # Till the nodes are there, each rule has a byte, and then one of the later nodes, as far as it stays sound.
    nodes = [(1, 0, 0)]
    rules = [(r, 0) for r in range(rule_count)]
    while len(nodes) < size:
        more = nodes + [drawn_node(draw, len(nodes), rule_count)]
        if sound_by_facts(more, rules):
            nodes = more
    for turn in range(4 * rule_count):
        r = turn % rule_count
        changed = rules[:r] + [(r, late(draw, size))] + rules[r + 1:]
        if sound_by_facts(nodes, changed) or draw.random() < 0.02:
            rules = changed
    return nodes, rules


def late(draw, below):
    """A number below this one, more often a high one."""
    return max(draw.randrange(below), draw.randrange(below))


def drawn_node(draw, below, rule_count):
    kind = draw.choice((0, 1, 2, 2, 3, 3, 3, 3, 3, 4, 4, 4, 5, 5, 6, 7, 7, 7, 7))
    if kind == 2:
        low = draw.randrange(97, 100)
        return (2, low, draw.randrange(low, 100))
    if kind == 7:
        return (7, draw.randrange(rule_count), draw.randrange(-3, 300))
    return (kind, late(draw, below), late(draw, below))


def shape(text, told):
    """What sort of answers these are, so that the test can tell that all sorts came up."""
    if told[0][0] < 0:
        return told[0][0]
    if told[0][0] == 0:
        return "nothing"
    return "all" if told[0][0] == len(text) else "some"


class ByTheWords(unittest.TestCase):
    def compare(self, nodes, rules, r, text, most):
        try:
            told = told_by_words(nodes, rules, r, text, most)
        except TooManySteps:
            return None
        given = ask_of(nodes, rules, take(r, text), uses(r, most, text), asked(r, text))
        if given != told:
            self.fail(f"nodes {nodes}, rules {rules}, rule {r}, text {text}: {given}, not {told}")
        return told

    def test_all_small_grammars(self):
        seen = {}
        for nodes, rules in small_grammars():
            for text in ([], [9, 9]):
                told = self.compare(nodes, rules, 0, text, 12288)
                seen[shape(text, told)] = seen.get(shape(text, told), 0) + 1
        self.assertEqual(set(seen), {-1, -2, -3, "nothing", "some", "all"})
        self.assertGreater(min(seen.values()), 50)

    def test_drawn_grammars(self):
        draw = random.Random(4)
        seen = {}
        long_uses = 0
        for count in range(3000):
            nodes, rules = drawn_grammar(draw)
            for r in range(len(rules) + 1):
                text = [draw.choice((97, 97, 98, 98, 99)) for place in range(draw.choice((0, 1, 2, 5, 12, 40)))]
                told = self.compare(nodes, rules, r, text, draw.choice((0, 1, 2, 4, 7, 12288, 12288, 12289)))
                if told is not None:
                    seen[shape(text, told)] = seen.get(shape(text, told), 0) + 1
                    long_uses += told[1][0] >= 9
        self.assertEqual(set(seen), {-1, -2, -3, "nothing", "some", "all"})
        self.assertGreater(min(seen.values()), 50)
        self.assertGreater(long_uses, 100)


if __name__ == "__main__":
    unittest.main()
