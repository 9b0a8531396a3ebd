"""Point 2: rule."""

import unittest

from tests.helpers import LARGEST, LEAST, first_numbers, node, rule, sound


class RuleIsGiven(unittest.TestCase):
    def test_each_rule(self):
        told = first_numbers(node(0), node(1), *[rule(r, r % 2) for r in range(16)])
        self.assertEqual(told, [0, 1] + [0] * 16)

    def test_each_node_of_64(self):
        told = first_numbers(*[node(0) for count in range(64)], rule(0, 0), rule(0, 63), rule(15, 62))
        self.assertEqual(told[64:], [0, 0, 0])

    def test_a_kind_7_sees_its_own_rule_alone(self):
        for given in range(16):
            with self.subTest(given=given):
                told = first_numbers(node(0), node(7, 6), rule(given, 0), sound())
                self.assertEqual(told, [0, 1, 0, 1 if given == 6 else 0])

    def test_several_rules_may_have_one_node(self):
        told = first_numbers(node(0), node(7, 0), node(7, 15), rule(0, 0), sound(), rule(15, 0), sound())
        self.assertEqual(told, [0, 1, 2, 0, 0, 0, 1])


class RuleIsRefused(unittest.TestCase):
    def test_no_such_rule(self):
        for r in (-1, 16, 17, LEAST, LARGEST):
            with self.subTest(r=r):
                self.assertEqual(first_numbers(node(0), rule(r, 0)), [0, -1])

    def test_no_such_node(self):
        for e in (-1, 1, 2, 64, LEAST, LARGEST):
            with self.subTest(e=e):
                self.assertEqual(first_numbers(node(0), rule(0, e)), [0, -1])

    def test_no_node_is_there_at_first(self):
        self.assertEqual(first_numbers(rule(0, 0), node(0), rule(0, 0)), [-1, 0, 0])

    def test_neither_is_there(self):
        self.assertEqual(first_numbers(rule(16, 0), rule(LEAST, LARGEST)), [-1, -1])


class RuleIsGivenAnew(unittest.TestCase):
    def test_the_later_node_holds(self):
        told = first_numbers(node(0), node(1), node(7, 3), node(5, 2), rule(3, 1), sound(), rule(3, 0), sound(),
                             rule(3, 1), sound())
        self.assertEqual(told, [0, 1, 2, 3, 0, 1, 0, 0, 0, 1])

    def test_the_same_node_again(self):
        self.assertEqual(first_numbers(node(1), node(7, 3), rule(3, 0), rule(3, 0), sound()), [0, 1, 0, 0, 1])

    def test_after_a_refusal_the_earlier_node_holds(self):
        told = first_numbers(node(1), node(7, 3), rule(3, 0), rule(3, 2), rule(3, -1), rule(19, 1), rule(-13, 1), sound())
        self.assertEqual(told, [0, 1, 0, -1, -1, -1, -1, 1])

    def test_after_a_refusal_a_rule_without_a_node_has_none(self):
        self.assertEqual(first_numbers(node(7, 3), rule(3, 1), sound()), [0, -1, 0])


if __name__ == "__main__":
    unittest.main()
