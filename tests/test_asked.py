"""Point 6: asked."""

import unittest

from tests.helpers import LARGEST, LEAST, ask_of, asked, first_numbers, sound

NOTHING = (0, 0, 0)
BYTE = (1, 0, 0)
A = (2, 97, 97)
B = (2, 98, 98)


def count(nodes, rules, text):
    """What asked answers of rule 0."""
    answer = ask_of(nodes, rules, asked(0, text))[0]
    if len(answer) != 1:
        raise AssertionError(f"asked answers {answer}")
    return answer[0]


class WhatIsCounted(unittest.TestCase):
    def test_no_kind_7(self):
        for nodes in ([NOTHING], [BYTE], [A], [BYTE, (5, 0, 0)], [A, (6, 0, 0)], [A, (3, 0, 0)], [A, B, (4, 0, 1)]):
            with self.subTest(nodes=nodes):
                self.assertEqual(count(nodes, [(0, len(nodes) - 1)], b"ab"), 0)

    def test_one_that_takes_nothing_or_something_or_fails(self):
        for first in (NOTHING, A, B):
            with self.subTest(first=first):
                self.assertEqual(count([first, (7, 1, 0)], [(0, 1), (1, 0)], b"a"), 1)

    def test_the_rule_asked_for_only_where_kind_7_asks_it(self):
        # r0 = a r0 / nothing: asked behind each a
        nodes = [A, (7, 0, 0), (3, 0, 1), NOTHING, (4, 2, 3)]
        for text, told in ((b"", 0), (b"b", 0), (b"a", 1), (b"ab", 1), (b"aab", 2), (b"a" * 40, 40)):
            with self.subTest(text=text):
                self.assertEqual(count(nodes, [(0, 4)], text), told)

    def test_one_that_is_not_asked_is_not_counted(self):
        self.assertEqual(ask_of([A, (7, 1, 0), BYTE], [(0, 2), (1, 0)], asked(0, b"a"), asked(1, b"a")), [[0], [0]])


class EachPairOnce(unittest.TestCase):
    def test_one_rule_twice_at_one_place(self):
        # r1 b / r1
        nodes = [A, B, (7, 1, 0), (3, 2, 1), (4, 3, 2)]
        self.assertEqual(count(nodes, [(0, 4), (1, 0)], b"aa"), 1)

    def test_one_rule_by_two_nodes_at_one_place(self):
        # Nodes 2 and 3 both ask rule 1.
        nodes = [A, B, (7, 1, 0), (7, 1, 5), (3, 2, 1), (4, 4, 3)]
        self.assertEqual(count(nodes, [(0, 5), (1, 0)], b"aa"), 1)

    def test_one_rule_at_two_places(self):
        nodes = [A, (7, 1, 0), (3, 1, 1)]
        self.assertEqual(count(nodes, [(0, 2), (1, 0)], b"aa"), 2)
        nodes = [A, (7, 1, 0), (7, 1, 5), (3, 1, 2)]
        self.assertEqual(count(nodes, [(0, 3), (1, 0)], b"aa"), 2)

    def test_two_rules_at_one_place(self):
        # Of one node too.
        nodes = [A, B, (7, 1, 0), (7, 2, 0), (3, 2, 1), (4, 4, 3)]
        self.assertEqual(count(nodes, [(0, 5), (1, 0), (2, 0)], b"aa"), 2)

    def test_rules_within_one_another(self):
        nodes = [A, (7, 1, 0), (7, 2, 0), (7, 3, 0)]
        self.assertEqual(count(nodes, [(0, 1), (1, 2), (2, 3), (3, 0)], b"a"), 3)


class EachKind(unittest.TestCase):
    """Rules 1 and 2 have a and b."""

    def told(self, nodes, text):
        grammar = [A, B, (7, 1, 0), (7, 2, 0), *nodes]
        return count(grammar, [(0, len(grammar) - 1), (1, 0), (2, 1)], text)

    def test_3_asks_b_only_where_a_takes(self):
        self.assertEqual(self.told([(3, 2, 3)], b"ab"), 2)
        self.assertEqual(self.told([(3, 2, 3)], b"aa"), 2)
        self.assertEqual(self.told([(3, 2, 3)], b"ba"), 1)
        self.assertEqual(self.told([(3, 2, 3)], b"a"), 2)

    def test_4_asks_b_only_where_a_fails(self):
        self.assertEqual(self.told([(4, 2, 3)], b"a"), 1)
        self.assertEqual(self.told([(4, 2, 3)], b"b"), 2)
        self.assertEqual(self.told([(4, 2, 3)], b"c"), 2)

    def test_4_counts_what_the_failed_way_asked(self):
        # r1 r1 / r1 r2
        self.assertEqual(self.told([(3, 2, 2), (3, 2, 3), (4, 4, 5)], b"ab"), 3)
        self.assertEqual(self.told([(3, 2, 2), (3, 2, 3), (4, 4, 5)], b"aa"), 2)

    def test_5_asks_once_more_than_it_takes(self):
        for text, told in ((b"", 1), (b"b", 1), (b"a", 2), (b"aab", 3), (b"a" * 40, 41)):
            with self.subTest(text=text):
                self.assertEqual(self.told([(5, 2, 0)], text), told)

    def test_6_counts_what_it_asks(self):
        self.assertEqual(self.told([(6, 2, 0)], b"a"), 1)
        self.assertEqual(self.told([(6, 2, 0)], b"b"), 1)
        # !(r1 r2), which comes as far as place 1
        self.assertEqual(self.told([(3, 2, 3), (6, 4, 0)], b"ac"), 2)
        self.assertEqual(self.told([(3, 2, 3), (6, 4, 0)], b"ab"), 2)

    def test_7_is_counted_where_it_is_the_rule_s_own_node(self):
        self.assertEqual(count([A, (7, 1, 0)], [(0, 1), (1, 0)], b""), 1)

    def test_a_look_ahead_and_then_the_same(self):
        # !!r1 r1 asks one pair only; !r1 r2 two.
        self.assertEqual(self.told([(6, 2, 0), (6, 4, 0), (3, 5, 2)], b"a"), 1)
        self.assertEqual(self.told([(6, 2, 0), (3, 4, 3)], b"b"), 2)
        self.assertEqual(self.told([(6, 2, 0), (3, 4, 3)], b"a"), 1)


class WhereItFails(unittest.TestCase):
    def test_no_refusal(self):
        nodes = [A, B, (7, 1, 0), (3, 2, 1)]
        self.assertEqual(count(nodes, [(0, 3), (1, 0)], b"c"), 1)
        self.assertEqual(count(nodes, [(0, 3), (1, 0)], b""), 1)
        self.assertEqual(count([A], [(0, 0)], b"b"), 0)


class TextLengths(unittest.TestCase):
    def test_empty(self):
        self.assertEqual(count([BYTE, (7, 1, 0), (5, 1, 0)], [(0, 2), (1, 0)], b""), 1)

    def test_all_16_rules_at_each_of_41_places(self):
        # r0 = r1, r1 = r2, .. r15 = byte r0
        nodes = [(7, r, 0) for r in range(16)] + [BYTE, (3, 16, 0)]
        rules = [(r, r + 1) for r in range(15)] + [(15, 17)]
        self.assertEqual(count(nodes, rules, b"a" * 40), 16 * 41 - 1)

    def test_128_and_more_by_the_words(self):
        nodes = [BYTE, (7, 1, 0), (5, 1, 0)]
        self.assertEqual(count(nodes, [(0, 2), (1, 0)], b"a" * 128), 129)
        self.assertEqual(count(nodes, [(0, 2), (1, 0)], b"a" * 129), -1)


class Refused(unittest.TestCase):
    def test_no_such_rule(self):
        for r in (-1, -16, 16, 17, LEAST, LARGEST):
            with self.subTest(r=r):
                rules = [(each, 0) for each in range(16)]
                self.assertEqual(ask_of([BYTE], rules, asked(r, b"a"), asked(r, b"")), [[-1], [-1]])

    def test_rule_without_a_node(self):
        told = ask_of([BYTE], [(3, 0)], asked(2, b"a"), asked(4, b"a"), asked(3, b"a"))
        self.assertEqual(told, [[-1], [-1], [0]])
        self.assertEqual(first_numbers(asked(0, b""), asked(15, b"a")), [-1, -1])

    def test_not_sound(self):
        self.assertEqual(count([(7, 0, 0)], [(0, 0)], b"a"), -3)
        self.assertEqual(count([BYTE, NOTHING, (5, 1, 0)], [(0, 0)], b"a"), -3)
        self.assertEqual(count([A, NOTHING, (5, 1, 0)], [(0, 0)], b"b"), -3)

    def test_no_node_comes_ahead_of_not_sound(self):
        told = ask_of([NOTHING, (5, 0, 0)], [(0, 1)], asked(0, b""), asked(1, b""), asked(16, b""), sound())
        self.assertEqual(told, [[-3], [-1], [-1], [0]])


if __name__ == "__main__":
    unittest.main()
