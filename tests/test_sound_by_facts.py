"""Point 3 again: sound against a second reading of the words, kept as a heap of single facts."""

import itertools
import random
import unittest

from orderedways.grammar import Grammar
from orderedways.soundness import FAILS, NOTHING, SOMETHING, good_nodes, what_may_come
from tests.helpers import soundness

BITS = (("nothing", NOTHING), ("something", SOMETHING), ("fails", FAILS))


def takes(facts, e):
    return ("nothing", e) in facts or ("something", e) in facts


def comings_of(node, owners, facts):
    """The words that hold of one node, given the facts found so far."""
    kind, a, b = node
    if kind == 0:
        return ["nothing"]
    if kind in (1, 2):
        return ["something", "fails"]
    if kind == 7:
        return [word for word in ("nothing", "something", "fails") if (word, owners.get(a)) in facts]
    told = []
    if kind == 3:
        if ("nothing", a) in facts and ("nothing", b) in facts:
            told.append("nothing")
        if ("something", a) in facts and takes(facts, b):
            told.append("something")
        if takes(facts, a) and ("something", b) in facts:
            told.append("something")
        if ("fails", a) in facts or (takes(facts, a) and ("fails", b) in facts):
            told.append("fails")
    if kind == 4:
        told += [word for word in ("nothing", "something") if (word, a) in facts]
        if ("fails", a) in facts:
            told += [word for word in ("nothing", "something", "fails") if (word, b) in facts]
    if kind == 5:
        told += [word for word in ("something",) if (word, a) in facts]
        told += ["nothing"] if ("fails", a) in facts else []
    if kind == 6:
        told += ["fails"] if takes(facts, a) else []
        told += ["nothing"] if ("fails", a) in facts else []
    return told


def goodness_of(node, owners, facts):
    kind, a, b = node
    if kind in (0, 1, 2):
        return ["good"]
    if kind == 3:
        holds = ("good", a) in facts and (("good", b) in facts or ("nothing", a) not in facts)
    elif kind == 4:
        holds = ("good", a) in facts and ("good", b) in facts
    elif kind == 5:
        holds = ("good", a) in facts and ("nothing", a) not in facts
    elif kind == 6:
        holds = ("good", a) in facts
    else:
        holds = a in owners and ("good", owners[a]) in facts
    return ["good"] if holds else []


def all_facts(nodes, rules):
    owners = dict(rules)
    facts = set()
    # Goodness asks that something may not come, so all that may come is found before it.
    for found_by in (comings_of, goodness_of):
        before = -1
        while before != len(facts):
            before = len(facts)
            facts = facts | {(word, e) for e, node in enumerate(nodes) for word in found_by(node, owners, facts)}
    return facts


def sound_by_facts(nodes, rules):
    facts = all_facts(nodes, rules)
    return 1 if all(("good", e) in facts for e in range(len(nodes))) else 0


def facts_of_the_program(nodes, rules):
    """The same facts, as the program finds them, of unsound grammars too."""
    grammar = Grammar()
    for kind, a, b in nodes:
        grammar.add_node(kind, a, b)
    for r, e in rules:
        grammar.set_rule(r, e)
    facts = {("good", e) for e, good in enumerate(good_nodes(grammar)) if good}
    for e, coming in enumerate(what_may_come(grammar)):
        facts |= {(word, e) for word, bit in BITS if coming & bit}
    return facts


def small_grammars():
    """All grammars of three nodes, kind 2 left out, and the rules 0 and 1, each of which has a node or none."""
    for nodes in itertools.product(small_nodes(0), small_nodes(1), small_nodes(2)):
        for first, second in itertools.product((None, 0, 1, 2), repeat=2):
            yield nodes, [(r, e) for r, e in ((0, first), (1, second)) if e is not None]


def small_nodes(below):
    """Each node that may stand behind so many others, with rules 0 and 1 alone, and without kind 2."""
    told = [(0, 0, 0), (1, 0, 0), (7, 0, 0), (7, 1, 0)]
    for a in range(below):
        told += [(5, a, 0), (6, a, 0)]
        for b in range(below):
            told += [(3, a, b), (4, a, b)]
    return told


def drawn_node(draw, below, rule_count):
    kind = draw.choice((0, 1, 1, 2, 3, 3, 3, 3, 4, 4, 5, 6, 7, 7))
    if below == 0 and kind in (3, 4, 5, 6):
        kind = 1
    if kind == 2:
        return (2, 97, 99)
    if kind == 7:
        return (7, draw.randrange(rule_count), 0)
    return (kind, draw.randrange(max(below, 1)), draw.randrange(max(below, 1)))


def probes(draw, nodes):
    """Nodes behind these that tell whether one of them may fail, or may take."""
    over = draw.randrange(len(nodes))
    size = len(nodes)
    return draw.choice((
        [],
        [(6, over, 0), (5, size, 0)],
        [(6, over, 0), (6, size, 0), (5, size + 1, 0)],
    ))


class AgainstFacts(unittest.TestCase):
    def test_all_small_grammars(self):
        seen = {0: 0, 1: 0}
        for nodes, rules in small_grammars():
            told = sound_by_facts(nodes, rules)
            seen[told] += 1
            if soundness(nodes, rules) != told:
                self.fail(f"nodes {nodes}, rules {rules}: not {told}")
        self.assertEqual(sum(seen.values()), 8192)
        self.assertGreater(min(seen.values()), 500)

    def test_each_fact_of_all_small_grammars(self):
        for nodes, rules in small_grammars():
            told = all_facts(nodes, rules)
            if facts_of_the_program(nodes, rules) != told:
                self.fail(f"nodes {nodes}, rules {rules}: not {sorted(told)}")

    def test_drawn_grammars(self):
        draw = random.Random(3)
        seen = {0: 0, 1: 0}
        for count in range(4000):
            rule_count = draw.choice((1, 2, 3, 16))
            size = draw.choice((4, 6, 9, 14, 30, 61))
            nodes = [drawn_node(draw, below, rule_count) for below in range(size)]
            rules = [(r, draw.randrange(size)) for r in range(rule_count)]
            # Nodes that make a grammar unsound by themselves are put aside, so that sound ones come up too.
            for e in range(size):
                if nodes[e][0] == 5 and not sound_by_facts(nodes[:e + 1], [(r, 0) for r in range(rule_count)]):
                    nodes[e] = (1, 0, 0)
            nodes += probes(draw, nodes)
            told = sound_by_facts(nodes, rules)
            seen[told] += 1
            if soundness(nodes, rules) != told:
                self.fail(f"nodes {nodes}, rules {rules}: not {told}")
        self.assertGreater(min(seen.values()), 200)


if __name__ == "__main__":
    unittest.main()
