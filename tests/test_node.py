"""Point 1: node."""

import unittest

from tests.helpers import LARGEST, LEAST, first_numbers, node, rule, sound


class EachKind(unittest.TestCase):
    def test_each_kind_once_numbered_from_0_on(self):
        told = first_numbers(
            node(0), node(1), node(2, 97, 122), node(3, 0, 2), node(4, 1, 3), node(5, 1), node(6, 4), node(7, 15)
        )
        self.assertEqual(told, [0, 1, 2, 3, 4, 5, 6, 7])

    def test_no_such_kind(self):
        for kind in (-1, 8, 9, 256, LEAST, LARGEST):
            with self.subTest(kind=kind):
                self.assertEqual(first_numbers(node(0), node(kind, 0, 0)), [0, -1])

    def test_what_is_not_named_is_not_looked_at(self):
        for other in (-1, 64, 256, LEAST, LARGEST):
            with self.subTest(other=other):
                told = first_numbers(
                    node(0, other, other), node(1, other, other),
                    node(5, 1, other), node(6, 1, other), node(7, 0, other),
                )
                self.assertEqual(told, [0, 1, 2, 3, 4])


class BytesOfKind2(unittest.TestCase):
    def test_allowed(self):
        for a, b in ((0, 0), (0, 255), (255, 255), (97, 97), (97, 98)):
            with self.subTest(a=a, b=b):
                self.assertEqual(first_numbers(node(2, a, b)), [0])

    def test_refused(self):
        pairs = (
            (-1, 0), (-1, -1), (0, 256), (256, 256), (98, 97), (255, 0), (0, -1),
            (LEAST, 255), (0, LARGEST), (LEAST, LARGEST), (LARGEST, LEAST),
        )
        for a, b in pairs:
            with self.subTest(a=a, b=b):
                self.assertEqual(first_numbers(node(2, a, b)), [-1])


class NodesOfKinds3To6(unittest.TestCase):
    def test_both_must_be_there_for_3_and_4(self):
        for kind in (3, 4):
            for wrong in (-1, 2, 3, LEAST, LARGEST):
                with self.subTest(kind=kind, wrong=wrong):
                    told = first_numbers(node(0), node(1), node(kind, wrong, 0), node(kind, 0, wrong),
                                         node(kind, wrong, wrong), node(kind, 1, 1))
                    self.assertEqual(told, [0, 1, -1, -1, -1, 2])

    def test_a_must_be_there_for_5_and_6(self):
        for kind in (5, 6):
            for wrong in (-1, 2, 3, LEAST, LARGEST):
                with self.subTest(kind=kind, wrong=wrong):
                    told = first_numbers(node(0), node(1), node(kind, wrong, 0), node(kind, 1, 0))
                    self.assertEqual(told, [0, 1, -1, 2])

    def test_no_node_is_there_at_first(self):
        self.assertEqual(first_numbers(node(3, 0, 0), node(4, 0, 0), node(5, 0), node(6, 0)), [-1] * 4)

    def test_a_node_is_not_there_for_itself(self):
        told = first_numbers(node(0), node(3, 0, 1), node(3, 1, 0), node(4, 0, 1), node(4, 1, 0), node(5, 1), node(6, 1))
        self.assertEqual(told, [0, -1, -1, -1, -1, -1, -1])


class RuleOfKind7(unittest.TestCase):
    def test_each_rule_though_it_has_no_node(self):
        self.assertEqual(first_numbers(*[node(7, r) for r in range(16)]), list(range(16)))

    def test_no_such_rule(self):
        for a in (-1, 16, 17, LEAST, LARGEST):
            with self.subTest(a=a):
                self.assertEqual(first_numbers(node(7, a)), [-1])


class SixtyFourNodes(unittest.TestCase):
    def test_the_65th_is_refused_for_each_kind(self):
        full = [node(1) for count in range(64)]
        more = [node(0), node(1), node(2, 0, 255), node(3, 63, 0), node(4, 0, 63), node(5, 63), node(6, 63), node(7, 15)]
        self.assertEqual(first_numbers(*full, *more), list(range(64)) + [-2] * 8)

    def test_what_is_wrong_goes_before_what_is_full(self):
        full = [node(1) for count in range(64)]
        more = [node(8), node(-1), node(2, 9, 8), node(2, 0, 256), node(3, 64, 0), node(3, 0, 64), node(4, 64, 0),
                node(4, 0, 64), node(5, 64), node(6, 64), node(7, 16)]
        self.assertEqual(first_numbers(*full, *more), list(range(64)) + [-1] * 11)

    def test_refusals_are_not_counted(self):
        calls = []
        for count in range(54):
            calls.append(node(0))
            calls.append(node(8))
        told = first_numbers(*calls, *[node(0) for count in range(12)])
        self.assertEqual(told[0:108:2], list(range(54)))
        self.assertEqual(told[1:108:2], [-1] * 54)
        self.assertEqual(told[108:], list(range(54, 64)) + [-2, -2])


class NothingChangesAfterARefusal(unittest.TestCase):
    def test_a_wrong_node_takes_no_number(self):
        told = first_numbers(node(0), node(5, 1), node(8), node(2, 2, 1), node(1), rule(0, 2), rule(0, 1))
        self.assertEqual(told, [0, -1, -1, -1, 1, -1, 0])

    def test_a_wrong_node_does_not_make_the_grammar_unsound(self):
        self.assertEqual(first_numbers(node(0), sound(), node(7, 16), node(5, 7), sound()), [0, 1, -1, -1, 1])

    def test_a_65th_node_is_not_there(self):
        full = [node(1) for count in range(64)]
        told = first_numbers(*full, sound(), node(7, 0), sound(), rule(0, 64), node(5, 64), rule(0, 63))
        self.assertEqual(told[64:], [1, -2, 1, -1, -1, 0])


if __name__ == "__main__":
    unittest.main()
