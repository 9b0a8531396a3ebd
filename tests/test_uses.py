"""Point 5: uses."""

import unittest

from tests.helpers import LARGEST, LEAST, ask_of, check_same, first_numbers, sound, take, uses

NOTHING = (0, 0, 0)
BYTE = (1, 0, 0)
A = (2, 97, 97)
B = (2, 98, 98)

# r0 = r1*, r1 = r2 / r3, r2 = a, r3 = b
LETTERS = [A, B, (7, 1, 0), (5, 2, 0), (7, 2, 0), (7, 3, 0), (4, 4, 5)]
LETTER_RULES = [(0, 3), (1, 6), (2, 0), (3, 1)]


def used(nodes, rules, text):
    """All uses that rule 0 tells, as (rule, place, place behind)."""
    answer = ask_of(nodes, rules, uses(0, 12288, text))[0]
    if answer[0] != len(answer) - 1 or answer[0] % 3 != 0:
        raise AssertionError(f"uses answers {answer}")
    return [tuple(answer[place:place + 3]) for place in range(1, len(answer), 3)]


class WhatIsAUse(unittest.TestCase):
    def test_kind_7_that_takes_a_byte(self):
        self.assertEqual(used([A, (7, 5, 0)], [(0, 1), (5, 0)], b"aa"), [(5, 0, 1)])

    def test_kind_7_that_takes_nothing(self):
        self.assertEqual(used([NOTHING, (7, 5, 0)], [(0, 1), (5, 0)], b"aa"), [])
        self.assertEqual(used([A, (5, 0, 0), (7, 5, 0)], [(0, 2), (5, 1)], b"b"), [])

    def test_the_rule_asked_for_is_not_a_use_itself(self):
        self.assertEqual(used([A], [(0, 0)], b"a"), [])
        self.assertEqual(used([A, (7, 0, 0), (7, 1, 0)], [(0, 2), (1, 0)], b"a"), [(1, 0, 1)])

    def test_a_rule_with_the_same_node_is_told_by_its_own_number(self):
        self.assertEqual(used([A, (7, 9, 0)], [(0, 1), (8, 0), (9, 0), (10, 0)], b"a"), [(9, 0, 1)])

    def test_it_is_the_rule_not_the_node(self):
        self.assertEqual(used([NOTHING, NOTHING, BYTE, (7, 15, 0)], [(0, 3), (15, 2)], b"a"), [(15, 0, 1)])

    def test_places(self):
        # a b (r4 = byte byte) then a
        nodes = [A, B, BYTE, (3, 0, 1), (3, 2, 2), (7, 4, 0), (3, 3, 5), (3, 6, 0)]
        self.assertEqual(used(nodes, [(0, 7), (4, 4)], b"abxya"), [(4, 2, 4)])


class InOrder(unittest.TestCase):
    def test_kind_3_those_of_a_then_those_of_b(self):
        nodes = [A, B, (7, 1, 0), (7, 2, 0), (3, 2, 3), (3, 3, 2)]
        self.assertEqual(used(nodes, [(0, 4), (1, 0), (2, 1)], b"ab"), [(1, 0, 1), (2, 1, 2)])
        self.assertEqual(used(nodes, [(0, 5), (1, 0), (2, 1)], b"ba"), [(2, 0, 1), (1, 1, 2)])

    def test_kind_3_with_a_that_takes_nothing(self):
        # r1 = a*, r2 = b
        nodes = [A, B, (5, 0, 0), (7, 1, 0), (7, 2, 0), (3, 3, 4), (3, 4, 3)]
        rules = [(1, 2), (2, 1)]
        self.assertEqual(used(nodes, [(0, 5)] + rules, b"b"), [(2, 0, 1)])
        self.assertEqual(used(nodes, [(0, 5)] + rules, b"aab"), [(1, 0, 2), (2, 2, 3)])
        self.assertEqual(used(nodes, [(0, 6)] + rules, b"b"), [(2, 0, 1)])
        self.assertEqual(used(nodes, [(0, 6)] + rules, b"ba"), [(2, 0, 1), (1, 1, 2)])

    def test_kind_4_those_of_the_one_that_takes(self):
        nodes = [A, B, (7, 1, 0), (7, 2, 0), (4, 2, 3)]
        rules = [(0, 4), (1, 0), (2, 1)]
        self.assertEqual(used(nodes, rules, b"a"), [(1, 0, 1)])
        self.assertEqual(used(nodes, rules, b"b"), [(2, 0, 1)])

    def test_kind_4_none_of_a_way_that_failed(self):
        # r1 b / r1 a, with r1 = a
        nodes = [A, B, (7, 1, 0), (3, 2, 1), (3, 2, 0), (4, 3, 4)]
        self.assertEqual(used(nodes, [(0, 5), (1, 0)], b"aa"), [(1, 0, 1)])
        # r1 r2 b / r2, with r1 = r2 = a: what the first way used is not told.
        nodes = [A, B, (7, 1, 0), (7, 2, 0), (3, 3, 1), (3, 2, 4), (4, 5, 3)]
        self.assertEqual(used(nodes, [(0, 6), (1, 0), (2, 0)], b"aac"), [(2, 0, 1)])
        self.assertEqual(used(nodes, [(0, 6), (1, 0), (2, 0)], b"aab"), [(1, 0, 1), (2, 1, 2)])

    def test_kind_5_those_of_each_time(self):
        self.assertEqual(used([A, (7, 1, 0), (5, 1, 0)], [(0, 2), (1, 0)], b"aaab"), [(1, 0, 1), (1, 1, 2), (1, 2, 3)])

    def test_kind_5_none_of_the_time_that_failed(self):
        # (r1 b)*
        nodes = [A, B, (7, 1, 0), (3, 2, 1), (5, 3, 0)]
        self.assertEqual(used(nodes, [(0, 4), (1, 0)], b"ababaa"), [(1, 0, 1), (1, 2, 3)])
        self.assertEqual(used(nodes, [(0, 4), (1, 0)], b"aa"), [])

    def test_kind_6_none(self):
        # !!r1 r2, with r1 = a and r2 = byte
        nodes = [A, BYTE, (7, 1, 0), (7, 2, 0), (6, 2, 0), (6, 4, 0), (3, 5, 3), (3, 4, 3)]
        rules = [(1, 0), (2, 1)]
        self.assertEqual(used(nodes, [(0, 6)] + rules, b"a"), [(2, 0, 1)])
        # !r1 r2
        self.assertEqual(used(nodes, [(0, 7)] + rules, b"b"), [(2, 0, 1)])

    def test_kind_7_its_own_then_those_of_its_node(self):
        # r1 = r2 r3, r2 = a, r3 = r2
        nodes = [A, (7, 1, 0), (7, 2, 0), (7, 3, 0), (3, 2, 3)]
        rules = [(0, 1), (1, 4), (2, 0), (3, 2)]
        self.assertEqual(used(nodes, rules, b"aa"), [(1, 0, 2), (2, 0, 1), (3, 1, 2), (2, 1, 2)])

    def test_kinds_within_one_another(self):
        told = [(1, 0, 1), (2, 0, 1), (1, 1, 2), (3, 1, 2), (1, 2, 3), (2, 2, 3)]
        self.assertEqual(used(LETTERS, LETTER_RULES, b"abac"), told)

    def test_a_rule_within_itself(self):
        # r0 = ( r0 ) / nothing: the innermost takes nothing
        nodes = [(2, 40, 40), (2, 41, 41), (7, 0, 0), (3, 2, 1), (3, 0, 3), NOTHING, (4, 4, 5)]
        self.assertEqual(used(nodes, [(0, 6)], b"((()))"), [(0, 1, 5), (0, 2, 4)])
        self.assertEqual(used(nodes, [(0, 6)], b"()"), [])

    def test_the_same_use_twice(self):
        # r1 = r2, and r2 asked within: one use for each that is asked, on the same bytes.
        nodes = [A, (7, 2, 0), (7, 1, 0), (3, 2, 1)]
        self.assertEqual(used(nodes, [(0, 3), (1, 1), (2, 0)], b"aa"), [(1, 0, 1), (2, 0, 1), (2, 1, 2)])

    def test_sums(self):
        # r0 = r1 (+ r1)*, r1 = r2 (* r2)*, r2 = digit / ( r0 )
        nodes = [
            (2, 48, 57), (2, 43, 43), (2, 42, 42), (2, 40, 40), (2, 41, 41), (7, 0, 0), (7, 1, 0), (7, 2, 0),
            (3, 1, 6), (5, 8, 0), (3, 6, 9), (3, 2, 7), (5, 11, 0), (3, 7, 12), (3, 5, 4), (3, 3, 14), (4, 0, 15),
        ]
        rules = [(0, 10), (1, 13), (2, 16)]
        self.assertEqual(used(nodes, rules, b"1+2*(3+4)+"), [
            (1, 0, 1), (2, 0, 1), (1, 2, 9), (2, 2, 3), (2, 4, 9), (0, 5, 8), (1, 5, 6), (2, 5, 6), (1, 7, 8), (2, 7, 8),
        ])


class Most(unittest.TestCase):
    TOLD = [1, 0, 1, 2, 0, 1, 1, 1, 2, 3, 1, 2]

    def uses_with(self, most, text=b"ab"):
        return ask_of(LETTERS, LETTER_RULES, uses(0, most, text))[0]

    def test_below_1_none(self):
        for most in (0, -1, -2, -3, -12, -12288, LEAST):
            with self.subTest(most=most):
                self.assertEqual(self.uses_with(most), [12])

    def test_each_up_to_the_count_and_above(self):
        for most in list(range(1, 16)) + [4096, 12287, 12288]:
            with self.subTest(most=most):
                self.assertEqual(self.uses_with(most), [12] + self.TOLD[:most])

    def test_above_12288_none(self):
        for most in (12289, 12300, 24576, LARGEST):
            with self.subTest(most=most):
                self.assertEqual(self.uses_with(most), [12])

    def test_no_uses(self):
        for most in (LEAST, -1, 0, 1, 3, 12288, 12289, LARGEST):
            with self.subTest(most=most):
                self.assertEqual(self.uses_with(most, b""), [0])
                self.assertEqual(self.uses_with(most, b"c"), [0])

    def test_refused_whatever_most_is(self):
        for most in (LEAST, 0, 1, 12288, 12289):
            with self.subTest(most=most):
                calls = [uses(0, most, b"b"), uses(1, most, b"b"), uses(16, most, b"b")]
                self.assertEqual(ask_of([A], [(0, 0)], *calls), [[-2], [-1], [-1]])
                self.assertEqual(ask_of([A, (7, 9, 0)], [(0, 0)], *calls), [[-3], [-1], [-1]])


class TextLengths(unittest.TestCase):
    def test_empty(self):
        self.assertEqual(used(LETTERS, LETTER_RULES, b""), [])
        self.assertEqual(ask_of([A, (7, 1, 0)], [(0, 1), (1, 0)], uses(0, 3, b"")), [[-2]])

    def test_40_bytes(self):
        told = [(r, place, place + 1) for place in range(40) for r in (1, 2)]
        check_same(used(LETTERS, LETTER_RULES, b"a" * 40), told)

    def test_all_16_rules_at_each_of_40_places(self):
        # r0 = r1, r1 = r2, .. r15 = byte (r0 / nothing)
        nodes = [(7, r, 0) for r in range(16)] + [BYTE, NOTHING, (4, 0, 17), (3, 16, 18)]
        rules = [(r, r + 1) for r in range(15)] + [(15, 19)]
        told = [(r, place, 40) for place in range(40) for r in range(16)][1:]
        check_same(used(nodes, rules, b"a" * 40), told)
        self.assertEqual(ask_of(nodes, rules, *[uses(0, most, b"a" * 40) for most in (0, 12289)]), [[1917], [1917]])

    def test_128_and_more_by_the_words(self):
        self.assertEqual(len(used(LETTERS, LETTER_RULES, b"a" * 128)), 256)
        self.assertEqual(ask_of(LETTERS, LETTER_RULES, uses(0, 1, b"a" * 129)), [[-1]])


class Refused(unittest.TestCase):
    def test_no_such_rule(self):
        for r in (-1, -16, 16, 17, LEAST, LARGEST):
            with self.subTest(r=r):
                rules = [(each, 0) for each in range(16)]
                self.assertEqual(ask_of([BYTE], rules, uses(r, 3, b"a"), uses(r, 0, b"")), [[-1], [-1]])

    def test_rule_without_a_node(self):
        told = ask_of([BYTE], [(3, 0)], uses(2, 9, b"a"), uses(4, 9, b"a"), uses(3, 9, b"a"))
        self.assertEqual(told, [[-1], [-1], [0]])
        self.assertEqual(first_numbers(uses(0, 1, b""), uses(15, 1, b"a")), [-1, -1])

    def test_not_sound(self):
        self.assertEqual(ask_of([(7, 0, 0)], [(0, 0)], uses(0, 9, b"a")), [[-3]])
        self.assertEqual(ask_of([BYTE, NOTHING, (5, 1, 0)], [(0, 0)], uses(0, 9, b"a")), [[-3]])

    def test_fails(self):
        # A use was there on the way: r1 b, with r1 = a
        nodes = [A, B, (7, 1, 0), (3, 2, 1)]
        self.assertEqual(ask_of(nodes, [(0, 3), (1, 0)], uses(0, 9, b"aa"), uses(0, 9, b"ab")), [[-2], [3, 1, 0, 1]])

    def test_no_node_comes_ahead_of_not_sound(self):
        told = ask_of([NOTHING, (5, 0, 0)], [(0, 1)], uses(0, 1, b""), uses(1, 1, b""), uses(16, 1, b""), sound())
        self.assertEqual(told, [[-3], [-1], [-1], [0]])

    def test_not_sound_comes_ahead_of_failing(self):
        self.assertEqual(ask_of([A, NOTHING, (5, 1, 0)], [(0, 0)], uses(0, 1, b"b"), uses(0, 1, b"")), [[-3], [-3]])


class ChangedBetween(unittest.TestCase):
    def test_the_rule_has_another_node(self):
        nodes = [A, (7, 1, 0), (3, 1, 1), (7, 2, 0)]
        told = ask_of(nodes, [(0, 1), (1, 0), (2, 2)], uses(0, 9, b"aa"), take(0, b"aa"))
        self.assertEqual(told, [[3, 1, 0, 1], [1]])
        told = ask_of(nodes, [(0, 1), (1, 0), (2, 2)], [2, 0, 3], uses(0, 9, b"aa"), [2, 0, 2], uses(0, 4, b"aa"))
        self.assertEqual(told, [[0], [9, 2, 0, 2, 1, 0, 1, 1, 1, 2], [0], [6, 1, 0, 1, 1]])


if __name__ == "__main__":
    unittest.main()
