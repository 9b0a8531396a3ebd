"""The interface: orderedways.desk.answers."""

import unittest

from orderedways.desk import UnknownCall, answers
from tests.helpers import LARGEST, LEAST, ask, asked, check_same, node, rule, sound, take, uses

# r0 = r1*, r1 = a / b; all six calls, with nodes and rules changed between
MIXED = [
    (node(2, 97, 97), [0]), (take(0, b"a"), [-1]), (uses(0, 9, b"a"), [-1]), (asked(0, b"a"), [-1]),
    (node(2, 98, 98), [1]), (node(4, 0, 1), [2]), (rule(1, 2), [0]), (node(7, 1), [3]), (node(5, 3), [4]),
    (rule(0, 4), [0]), (sound(), [1]),
    (take(0, b"abc"), [2]), (uses(0, 4, b"abc"), [6, 1, 0, 1, 1]), (asked(0, b"abc"), [3]), (take(1, b"c"), [-2]),
    (rule(1, 0), [0]),
    (take(0, b"abc"), [1]), (uses(0, 4, b"abc"), [3, 1, 0, 1]), (asked(0, b"abc"), [2]),
    (node(7, 2), [5]), (sound(), [0]),
    (take(0, b"abc"), [-3]), (uses(0, 4, b"abc"), [-3]), (asked(0, b"abc"), [-3]), (take(2, b"abc"), [-1]),
    (rule(2, 6), [-1]), (node(5, 6), [-1]), (rule(2, 3), [0]), (sound(), [1]),
    (take(0, b"abc"), [1]), (take(2, b"abc"), [1]), (uses(2, 12288, b"abc"), [3, 1, 0, 1]), (uses(1, 12288, b"b"), [-2]),
    (node(3, 5, 3), [6]), (rule(0, 6), [0]), (take(0, b"aab"), [2]),
    (uses(0, 12288, b"aab"), [9, 2, 0, 1, 1, 0, 1, 1, 1, 2]), (asked(0, b"aab"), [3]), (asked(0, b""), [2]),
]


def line_of(pairs):
    return [number for call, told in pairs for number in call]


class FixedList(list):
    """A list that refuses to be changed."""

    def refuse(self, *args, **kwargs):
        raise AssertionError("what is handed in was changed")

    __setitem__ = __delitem__ = __iadd__ = __imul__ = refuse
    append = clear = extend = insert = pop = remove = reverse = sort = refuse


class CountAheadOfEachAnswer(unittest.TestCase):
    def test_one_call(self):
        self.assertEqual(answers([3]), [1, 1])
        self.assertEqual(answers([1, 0, 0, 0]), [1, 0])
        self.assertEqual(answers([2, 0, 0]), [1, -1])

    def test_several_calls(self):
        line = [1, 1, 0, 0, 1, 7, 2, 0, 3, 2, 2, 0, 3, 1, 9, 0, 0]
        self.assertEqual(answers(line), [1, 0, 1, 1, 1, 0, 1, 0, 1, 1, 1, -1])

    def test_numbers_that_look_like_calls(self):
        line = [1, 2, 3, 3, 1, 3, 0, 0, 2, 3, 1, 3, 1, 1, 1, 1]
        self.assertEqual(answers(line), [1, 0, 1, 1, 1, 0, 1, 1, 1, 2])

    def test_120_calls(self):
        calls = [node(1)] * 64 + [rule(r, 4 * r) for r in range(16)] + [sound()] * 40
        line = [number for call in calls for number in call]
        told = [number for each in range(64) for number in (1, each)] + [1, 0] * 16 + [1, 1] * 40
        self.assertEqual(answers(line), told)

    def test_whole_numbers_and_a_list(self):
        given = answers([3, 1, 7, 0, 0, 3, 2, 0, 5])
        self.assertIs(type(given), list)
        self.assertEqual(given, [1, 1, 1, 0, 1, 0, 1, -1])
        self.assertEqual([type(number) for number in given], [int] * 8)
        given = answers(line_of(MIXED))
        self.assertEqual({type(number) for number in given}, {int})

    def test_more_than_one_number(self):
        line = [1, 1, 0, 0, 1, 7, 3, 0, 2, 0, 1, 2, 3, 0]
        self.assertEqual(answers(line + [5, 0, 2, 1, 9]), [1, 0, 1, 1, 1, 0, 1, 0, 3, 3, 3, 0])
        self.assertEqual(answers(line + [5, 0, 0, 1, 9, 4, 0, 1, 9]), [1, 0, 1, 1, 1, 0, 1, 0, 1, 3, 1, 1])
        self.assertEqual(answers(line + [5, 0, 9, 0, 6, 0, 0]), [1, 0, 1, 1, 1, 0, 1, 0, 1, -2, 1, 1])

    def test_texts_that_look_like_calls(self):
        line = [1, 1, 0, 0, 1, 5, 0, 0, 2, 0, 1]
        told = [1, 0, 1, 1, 1, 0]
        self.assertEqual(answers(line + [4, 0, 3, 1, 2, 3, 3]), told + [1, 3, 1, 1])
        self.assertEqual(answers(line + [5, 0, 3, 4, 4, 0, 1, 3, 6, 0, 2, 3, 3]), told + [1, 0, 1, 0])
        # A text behind a refusal is passed over too.
        self.assertEqual(answers(line + [4, 1, 3, 3, 3, 3, 5, 1, 9, 2, 3, 3, 6, 16, 1, 3, 3]),
                         told + [1, -1, 1, -1, 1, -1, 1, 1])
        self.assertEqual(answers([1, 7, 0, 0, 2, 0, 0, 4, 0, 3, 3, 3, 3, 5, 0, 9, 2, 3, 3, 6, 0, 1, 3, 3]),
                         [1, 0, 1, 0, 1, -3, 1, -3, 1, -3, 1, 0])


class CallsOfAllSorts(unittest.TestCase):
    def test_mixed_in_one_list(self):
        self.assertEqual(ask(*[call for call, told in MIXED]), [told for call, told in MIXED])

    def test_each_beginning_of_it(self):
        # What comes later in the list makes no difference to what stands before.
        for count in range(1, len(MIXED)):
            with self.subTest(count=count):
                self.assertEqual(ask(*[call for call, told in MIXED[:count]]), [told for call, told in MIXED[:count]])

    def test_take_uses_and_asked_change_nothing(self):
        kept = [(call, told) for call, told in MIXED if call[0] <= 3]
        self.assertEqual(ask(*[call for call, told in kept]), [told for call, told in kept])
        twice = [pair for pair in MIXED for count in range(2 if pair[0][0] >= 4 else 1)]
        self.assertEqual(ask(*[call for call, told in twice]), [told for call, told in twice])

    def test_120_calls_on_texts_of_40_bytes(self):
        # r0 = r1, r1 = r2, .. r15 = byte r0 / nothing
        built = [node(7, r) for r in range(16)] + [node(1), node(0), node(3, 16, 0), node(4, 18, 17)]
        built += [rule(r, r + 1) for r in range(15)] + [rule(15, 19)]
        text = [255] * 40
        numbers = [number for place in range(40) for r in range(16) for number in (r, place, 40)][3:]
        told = ask(*built, *[take(0, text), uses(0, 12288, text), asked(0, text)] * 28)
        self.assertEqual(len(told), 120)
        check_same(told[36:], [[40], [1917] + numbers, [655]] * 28)


class SmallestAndLargest(unittest.TestCase):
    def test_node(self):
        for number in (LEAST, LARGEST):
            with self.subTest(number=number):
                self.assertEqual(answers([1, number, number, number]), [1, -1])
                self.assertEqual(answers([1, 0, number, number]), [1, 0])
                for kind in (2, 3, 4, 5, 6, 7):
                    self.assertEqual(answers([1, 0, 0, 0, 1, kind, number, number]), [1, 0, 1, -1])

    def test_rule(self):
        for number in (LEAST, LARGEST):
            with self.subTest(number=number):
                self.assertEqual(answers([1, 0, 0, 0, 2, number, 0, 2, 0, number, 2, number, number]),
                                 [1, 0, 1, -1, 1, -1, 1, -1])


    def test_take_uses_asked(self):
        built = [1, 1, 0, 0, 1, 7, 1, 0, 2, 0, 1, 2, 1, 0]
        told = [1, 0, 1, 1, 1, 0, 1, 0]
        for number in (LEAST, LARGEST):
            with self.subTest(number=number):
                self.assertEqual(answers(built + [4, number, 1, 7, 6, number, 0]), told + [1, -1, 1, -1])
                self.assertEqual(answers(built + [5, number, number, 1, 7]), told + [1, -1])
                self.assertEqual(answers(built + [5, 0, number, 1, 7]), told + [1, 3])
        for byte in (0, 255):
            with self.subTest(byte=byte):
                self.assertEqual(answers(built + [4, 0, 1, byte, 5, 0, 3, 1, byte]), told + [1, 1, 4, 3, 1, 0, 1])


class NothingIsKept(unittest.TestCase):
    def test_nodes_and_rules_are_gone(self):
        built = [1, 0, 0, 0, 1, 7, 4, 0, 2, 4, 0, 3]
        self.assertEqual(answers(built), [1, 0, 1, 1, 1, 0, 1, 1])
        self.assertEqual(answers([2, 4, 0, 1, 7, 4, 0, 3]), [1, -1, 1, 0, 1, 0])
        self.assertEqual(answers(built), [1, 0, 1, 1, 1, 0, 1, 1])

    def test_64_nodes_are_gone(self):
        full = [1, 0, 0, 0] * 65
        told = [number for each in range(64) for number in (1, each)] + [1, -2]
        self.assertEqual(answers(full), told)
        self.assertEqual(answers(full), told)

    def test_what_was_read_is_gone(self):
        line = line_of(MIXED)
        first = answers(line)
        self.assertEqual(answers([4, 0, 1, 97, 5, 0, 9, 1, 97, 6, 0, 1, 97, 3]), [1, -1, 1, -1, 1, -1, 1, 1])
        self.assertEqual(answers([1, 1, 0, 0, 2, 0, 0, 4, 0, 3, 97, 98, 99]), [1, 0, 1, 0, 1, 1])
        self.assertEqual(answers(line), first)

    def test_the_answer_is_a_list_of_its_own(self):
        first = answers([3])
        first.append(7)
        self.assertEqual(answers([3]), [1, 1])

    def test_what_was_handed_in_may_change_later(self):
        line = [1, 0, 0, 0, 3]
        given = answers(line)
        line.clear()
        self.assertEqual(given, [1, 0, 1, 1])


class WhatIsHandedInIsNotChanged(unittest.TestCase):
    def test_the_list_is_as_before(self):
        line = [1, 1, 5, 6, 1, 5, 0, 9, 1, 8, 0, 0, 2, 0, 1, 2, 16, 0, 3]
        before = list(line)
        answers(line)
        self.assertEqual(line, before)

    def test_not_for_a_while_either(self):
        line = FixedList([1, 1, 5, 6, 1, 5, 0, 9, 1, 8, 0, 0, 2, 0, 1, 2, 16, 0, 3])
        self.assertEqual(answers(line), [1, 0, 1, 1, 1, -1, 1, 0, 1, -1, 1, 1])

    def test_calls_of_all_sorts(self):
        line = line_of(MIXED)
        fixed = FixedList(line)
        self.assertEqual(answers(fixed), answers(line))
        self.assertEqual(line, line_of(MIXED))
        self.assertEqual(list(fixed), line)


class UnknownCalls(unittest.TestCase):
    def test_no_such_call(self):
        for call in (0, 7, -1, LEAST, LARGEST):
            with self.subTest(call=call), self.assertRaises(UnknownCall):
                answers([3, call])


if __name__ == "__main__":
    unittest.main()
