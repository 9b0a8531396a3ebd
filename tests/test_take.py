"""Point 4: take."""

import unittest

from tests.helpers import LARGEST, LEAST, ask_of, first_numbers, node, rule, sound, take

NOTHING = (0, 0, 0)
BYTE = (1, 0, 0)
A = (2, 97, 97)
B = (2, 98, 98)


def taken(nodes, text, rules=()):
    """What take answers of the last node, as that of rule 0 where no other is given."""
    owners = {0: len(nodes) - 1, **dict(rules)}
    answer = ask_of(nodes, owners.items(), take(0, text))[0]
    if len(answer) != 1:
        raise AssertionError(f"take answers {answer}")
    return answer[0]


class KindsThatAskNothing(unittest.TestCase):
    def test_0_takes_nothing(self):
        for text in (b"", b"a", b"ab", bytes(40)):
            with self.subTest(text=text):
                self.assertEqual(taken([NOTHING], text), 0)

    def test_1_takes_one_byte_if_there_is_one(self):
        self.assertEqual(taken([BYTE], b""), -2)
        for text in ([0], [255], [97], [1, 2], [7] * 40):
            with self.subTest(text=text):
                self.assertEqual(taken([BYTE], text), 1)

    def test_2_takes_one_byte_from_a_to_b(self):
        for byte, told in ((0, -2), (9, -2), (10, 1), (15, 1), (20, 1), (21, -2), (255, -2)):
            with self.subTest(byte=byte):
                self.assertEqual(taken([(2, 10, 20)], [byte]), told)
                self.assertEqual(taken([(2, 10, 20)], [byte, 15]), told)

    def test_2_at_its_edges(self):
        self.assertEqual(taken([(2, 10, 20)], b""), -2)
        self.assertEqual(taken([(2, 0, 0)], b""), -2)
        for byte in (0, 1, 254, 255):
            with self.subTest(byte=byte):
                self.assertEqual(taken([(2, 0, 255)], [byte]), 1)
                self.assertEqual(taken([(2, 0, 0)], [byte]), 1 if byte == 0 else -2)
                self.assertEqual(taken([(2, 255, 255)], [byte]), 1 if byte == 255 else -2)
                self.assertEqual(taken([(2, 1, 254)], [byte]), 1 if byte in (1, 254) else -2)

    def test_what_is_not_named_is_not_looked_at(self):
        self.assertEqual(taken([(0, 7, -3)], b"x"), 0)
        self.assertEqual(taken([(1, 255, -9)], [0]), 1)


class Kind3(unittest.TestCase):
    def test_a_then_b(self):
        for text, told in ((b"", -2), (b"a", -2), (b"b", -2), (b"ab", 2), (b"abb", 2), (b"ba", -2), (b"aab", -2)):
            with self.subTest(text=text):
                self.assertEqual(taken([A, B, (3, 0, 1)], text), told)

    def test_one_that_takes_nothing(self):
        self.assertEqual(taken([NOTHING, A, (3, 0, 1)], b"ab"), 1)
        self.assertEqual(taken([NOTHING, A, (3, 1, 0)], b"ab"), 1)
        self.assertEqual(taken([NOTHING, (3, 0, 0)], b"ab"), 0)
        self.assertEqual(taken([NOTHING, A, (3, 0, 1)], b"b"), -2)
        self.assertEqual(taken([NOTHING, A, (3, 1, 0)], b"b"), -2)

    def test_the_same_node_twice(self):
        for text, told in ((b"", -2), (b"a", -2), (b"aa", 2), (b"aaa", 2), (b"ab", -2)):
            with self.subTest(text=text):
                self.assertEqual(taken([A, (3, 0, 0)], text), told)

    def test_b_is_not_asked_anew_where_a_could_take_less(self):
        # a* a never takes: the first has taken all.
        self.assertEqual(taken([A, (5, 0, 0), (3, 1, 0)], b"aaa"), -2)

    def test_b_stands_behind_a_of_several_bytes(self):
        self.assertEqual(taken([A, B, (5, 0, 0), (3, 2, 1)], b"aaab"), 4)
        self.assertEqual(taken([A, B, (5, 0, 0), (3, 2, 1)], b"b"), 1)


class Kind4(unittest.TestCase):
    def test_the_first_way_is_tried_first(self):
        # a / a a takes one byte, a a / a two.
        self.assertEqual(taken([A, (3, 0, 0), (4, 0, 1)], b"aa"), 1)
        self.assertEqual(taken([A, (3, 0, 0), (4, 1, 0)], b"aa"), 2)

    def test_the_second_way_is_at_the_same_place(self):
        # a a / a takes one byte of "ab", though its first way had come to the second.
        self.assertEqual(taken([A, (3, 0, 0), (4, 1, 0)], b"ab"), 1)
        # At place 1: b (a a / a)
        self.assertEqual(taken([A, B, (3, 0, 0), (4, 2, 0), (3, 1, 3)], b"bab"), 2)

    def test_both_fail(self):
        self.assertEqual(taken([A, B, (4, 0, 1)], b"c"), -2)
        self.assertEqual(taken([A, B, (4, 0, 1)], b""), -2)

    def test_one_of_them(self):
        self.assertEqual(taken([A, B, (4, 0, 1)], b"ac"), 1)
        self.assertEqual(taken([A, B, (4, 0, 1)], b"bc"), 1)

    def test_a_first_way_that_takes_nothing_has_not_failed(self):
        self.assertEqual(taken([NOTHING, A, (4, 0, 1)], b"a"), 0)
        self.assertEqual(taken([A, (5, 0, 0), B, (4, 1, 2)], b"b"), 0)

    def test_a_second_way_that_takes_nothing(self):
        self.assertEqual(taken([NOTHING, A, (4, 1, 0)], b"a"), 1)
        self.assertEqual(taken([NOTHING, A, (4, 1, 0)], b"b"), 0)

    def test_the_second_way_is_not_tried_for_what_comes_behind(self):
        # (a / a b) c fails on "abc": the first way took, and c does not come behind it.
        self.assertEqual(taken([A, B, (3, 0, 1), (4, 0, 2), (2, 99, 99), (3, 3, 4)], b"abc"), -2)
        # (a b / a) c takes it.
        self.assertEqual(taken([A, B, (3, 0, 1), (4, 2, 0), (2, 99, 99), (3, 3, 4)], b"abc"), 3)


class Kind5(unittest.TestCase):
    def test_as_often_as_it_comes(self):
        for text, told in ((b"", 0), (b"b", 0), (b"a", 1), (b"ab", 1), (b"aab", 2), (b"aaba", 2), (b"a" * 40, 40)):
            with self.subTest(text=text):
                self.assertEqual(taken([A, (5, 0, 0)], text), told)

    def test_what_was_begun_and_failed_is_not_taken(self):
        for text, told in ((b"ab", 2), (b"aba", 2), (b"abab", 4), (b"ababa", 4), (b"a", 0), (b"ba", 0)):
            with self.subTest(text=text):
                self.assertEqual(taken([A, B, (3, 0, 1), (5, 2, 0)], text), told)

    def test_takes_of_several_lengths(self):
        # (a a / b)*
        for text, told in ((b"aabaa", 5), (b"aaba", 3), (b"bbaab", 5), (b"abb", 0)):
            with self.subTest(text=text):
                self.assertEqual(taken([A, B, (3, 0, 0), (4, 2, 1), (5, 3, 0)], text), told)

    def test_over_what_always_fails(self):
        self.assertEqual(taken([NOTHING, (6, 0, 0), (5, 1, 0)], b"aa"), 0)

    def test_one_within_another(self):
        # (a b*)*
        for text, told in ((b"abbabab", 7), (b"babb", 0), (b"aaab", 4), (b"abcab", 2)):
            with self.subTest(text=text):
                self.assertEqual(taken([A, B, (5, 1, 0), (3, 0, 2), (5, 3, 0)], text), told)


class Kind6(unittest.TestCase):
    def test_takes_nothing_where_a_fails(self):
        self.assertEqual(taken([A, (6, 0, 0)], b"b"), 0)
        self.assertEqual(taken([A, (6, 0, 0)], b""), 0)

    def test_fails_where_a_takes_something(self):
        self.assertEqual(taken([A, (6, 0, 0)], b"a"), -2)
        self.assertEqual(taken([A, (5, 0, 0), (6, 1, 0)], b"aaa"), -2)

    def test_fails_where_a_takes_nothing(self):
        self.assertEqual(taken([NOTHING, (6, 0, 0)], b"a"), -2)
        self.assertEqual(taken([NOTHING, (6, 0, 0)], b""), -2)
        self.assertEqual(taken([A, (5, 0, 0), (6, 1, 0)], b"b"), -2)

    def test_twice_looks_ahead(self):
        # a ahead, then any byte
        self.assertEqual(taken([A, (6, 0, 0), (6, 1, 0), BYTE, (3, 2, 3)], b"ab"), 1)
        self.assertEqual(taken([A, (6, 0, 0), (6, 1, 0), BYTE, (3, 2, 3)], b"b"), -2)

    def test_the_end_of_the_text(self):
        # a !byte
        self.assertEqual(taken([A, BYTE, (6, 1, 0), (3, 0, 2)], b"a"), 1)
        self.assertEqual(taken([A, BYTE, (6, 1, 0), (3, 0, 2)], b"aa"), -2)

    def test_all_up_to_a_sign(self):
        # (!b byte)*
        self.assertEqual(taken([B, BYTE, (6, 0, 0), (3, 2, 1), (5, 3, 0)], b"acdb"), 3)
        self.assertEqual(taken([B, BYTE, (6, 0, 0), (3, 2, 1), (5, 3, 0)], b"bacd"), 0)
        self.assertEqual(taken([B, BYTE, (6, 0, 0), (3, 2, 1), (5, 3, 0)], b"acd"), 3)


class Kind7(unittest.TestCase):
    def test_is_as_the_node_of_its_rule(self):
        for first, text, told in ((NOTHING, b"a", 0), (A, b"a", 1), (A, b"b", -2), (BYTE, b"b", 1), (BYTE, b"", -2)):
            with self.subTest(first=first, text=text):
                self.assertEqual(taken([first, (7, 9, 0)], text, [(9, 0)]), told)

    def test_each_rule(self):
        for r in range(1, 16):
            with self.subTest(r=r):
                rules = [(other, 1) for other in range(1, 16)] + [(r, 0)]
                self.assertEqual(taken([A, B, (7, r, 0)], b"a", rules), 1)
                self.assertEqual(taken([A, B, (7, r, 0)], b"b", rules), -2)

    def test_its_place_is_kept(self):
        self.assertEqual(taken([A, B, (7, 1, 0), (3, 0, 2)], b"ab", [(1, 1)]), 2)
        self.assertEqual(taken([A, B, (7, 1, 0), (3, 0, 2)], b"aa", [(1, 1)]), -2)

    def test_a_rule_within_itself(self):
        # r0 = ( r0 ) / nothing
        grammar = [(2, 40, 40), (2, 41, 41), (7, 0, 0), (3, 2, 1), (3, 0, 3), NOTHING, (4, 4, 5)]
        for text, told in ((b"", 0), (b"()", 2), (b"((()))", 6), (b"((())", 0), (b"()()", 2), (b"(()))", 4), (b")", 0)):
            with self.subTest(text=text):
                self.assertEqual(taken(grammar, text), told)

    def test_as_many_of_three_signs(self):
        # r0 = !!(r1 c) a* r2 !byte, r1 = a r1 b / a b, r2 = b r2 c / b c
        c = (2, 99, 99)
        grammar = [
            A, B, c, BYTE, (7, 1, 0), (7, 2, 0),
            (3, 4, 1), (3, 0, 6), (3, 0, 1), (4, 7, 8),
            (3, 5, 2), (3, 1, 10), (3, 1, 2), (4, 11, 12),
            (3, 4, 2), (6, 14, 0), (6, 15, 0), (5, 0, 0), (6, 3, 0), (3, 5, 18), (3, 17, 19), (3, 16, 20),
        ]
        for text, told in ((b"abc", 3), (b"aabbcc", 6), (b"aaabbbccc", 9), (b"aabbc", -2), (b"aabcc", -2),
                           (b"abbcc", -2), (b"abcc", -2), (b"", -2)):
            with self.subTest(text=text):
                self.assertEqual(taken(grammar, text, [(1, 9), (2, 13)]), told)


class TheRuleAskedFor(unittest.TestCase):
    def test_each_rule(self):
        rules = [(r, r) for r in range(16)]
        nodes = [(2, r, r) for r in range(16)]
        for r in range(16):
            with self.subTest(r=r):
                told = ask_of(nodes, rules, *[take(r, [byte, 0]) for byte in range(16)])
                self.assertEqual(told, [[1] if byte == r else [-2] for byte in range(16)])

    def test_the_last_of_64_nodes(self):
        self.assertEqual(ask_of([NOTHING] * 63 + [BYTE], [(0, 63), (1, 62)], take(0, b"a"), take(1, b"a")), [[1], [0]])


class TextLengths(unittest.TestCase):
    def test_each_length_up_to_40(self):
        for length in range(41):
            with self.subTest(length=length):
                self.assertEqual(taken([BYTE, (5, 0, 0)], [length] * length), length)

    def test_up_to_128_by_the_words(self):
        for length in (41, 127, 128):
            with self.subTest(length=length):
                self.assertEqual(taken([BYTE, (5, 0, 0)], [9] * length), length)

    def test_longer_is_refused(self):
        self.assertEqual(taken([BYTE, (5, 0, 0)], [9] * 129), -1)
        # -1 comes ahead of -3.
        self.assertEqual(taken([NOTHING, (5, 0, 0)], [9] * 129), -1)


class Refused(unittest.TestCase):
    def test_no_such_rule(self):
        for r in (-1, -16, 16, 17, LEAST, LARGEST):
            with self.subTest(r=r):
                rules = [(each, 0) for each in range(16)]
                self.assertEqual(ask_of([BYTE], rules, take(r, b"a"), take(r, b"")), [[-1], [-1]])

    def test_rule_without_a_node(self):
        self.assertEqual(ask_of([BYTE], [(3, 0)], take(2, b"a"), take(4, b"a"), take(3, b"a")), [[-1], [-1], [1]])

    def test_nothing_is_there_at_first(self):
        self.assertEqual(first_numbers(take(0, b""), take(15, b"abc"), take(16, b"")), [-1, -1, -1])

    def test_not_sound(self):
        self.assertEqual(taken([(7, 0, 0)], b"a"), -3)
        self.assertEqual(taken([NOTHING, (5, 0, 0)], b""), -3)
        self.assertEqual(taken([(7, 5, 0), BYTE], b"a"), -3)

    def test_not_sound_by_a_node_that_is_not_asked(self):
        self.assertEqual(ask_of([BYTE, NOTHING, (5, 1, 0)], [(0, 0)], take(0, b"a")), [[-3]])

    def test_fails(self):
        self.assertEqual(taken([A], b"b"), -2)

    def test_no_node_comes_ahead_of_not_sound(self):
        unsound = [NOTHING, (5, 0, 0)]
        told = ask_of(unsound, [(0, 1)], take(0, b""), take(1, b""), take(16, b""), take(-1, b""), sound())
        self.assertEqual(told, [[-3], [-1], [-1], [-1], [0]])

    def test_not_sound_comes_ahead_of_failing(self):
        self.assertEqual(ask_of([A, NOTHING, (5, 1, 0)], [(0, 0)], take(0, b"b"), take(0, b"")), [[-3], [-3]])

    def test_a_refusal_changes_nothing(self):
        told = first_numbers(node(2, 97, 97), take(0, b"a"), rule(0, 0), take(0, b"b"), take(0, b"a"), node(7, 1),
                             take(0, b"a"), rule(1, 0), take(0, b"a"), take(1, b"a"), node(0))
        self.assertEqual(told, [0, -1, 0, -2, 1, 1, -3, 0, 1, 1, 2])


class ChangedBetween(unittest.TestCase):
    def test_the_rule_has_another_node(self):
        told = first_numbers(node(2, 97, 97), node(5, 0), rule(0, 0), take(0, b"aaa"), rule(0, 1), take(0, b"aaa"),
                             rule(0, 0), take(0, b"aaa"))
        self.assertEqual(told, [0, 1, 0, 1, 0, 3, 0, 1])

    def test_a_rule_that_it_asks_has_another_node(self):
        told = first_numbers(node(2, 97, 97), node(2, 98, 98), node(7, 4), node(5, 2), rule(4, 0), rule(0, 3),
                             take(0, b"aab"), rule(4, 1), take(0, b"aab"), take(0, b"bba"))
        self.assertEqual(told, [0, 1, 2, 3, 0, 0, 2, 0, 0, 2])

    def test_not_sound_and_sound_again(self):
        told = first_numbers(node(0), node(1), node(7, 4), node(5, 2), rule(0, 3), take(0, b"aa"), rule(4, 0),
                             take(0, b"aa"), rule(4, 1), take(0, b"aa"))
        self.assertEqual(told, [0, 1, 2, 3, 0, -3, 0, -3, 0, 2])

    def test_nodes_added(self):
        told = first_numbers(node(1), rule(0, 0), take(0, b"ab"), node(3, 0, 0), take(0, b"ab"), rule(0, 1),
                             take(0, b"ab"), take(0, b"a"), take(0, b"ab"))
        self.assertEqual(told, [0, 0, 1, 1, 1, 0, 2, -2, 2])


if __name__ == "__main__":
    unittest.main()
