"""The interface: orderedways.desk.answers."""

import unittest

from orderedways.desk import answers
from tests.helpers import LARGEST, LEAST, node, rule, sound


class FixedList(list):
    """A list that refuses to be changed."""

    def refuse(self, *args, **kwargs):
        raise AssertionError("what is handed in was changed")

    __setitem__ = __delitem__ = __iadd__ = __imul__ = refuse
    append = clear = extend = insert = pop = remove = reverse = sort = refuse


class CountAheadOfEachAnswer(unittest.TestCase):
    def test_one_call(self):
        self.assertEqual(answers([3]), [1, 1])
        self.assertEqual(answers([1, 0, 0, 0]), [1, 0])
        self.assertEqual(answers([2, 0, 0]), [1, -1])

    def test_several_calls(self):
        line = [1, 1, 0, 0, 1, 7, 2, 0, 3, 2, 2, 0, 3, 1, 9, 0, 0]
        self.assertEqual(answers(line), [1, 0, 1, 1, 1, 0, 1, 0, 1, 1, 1, -1])

    def test_numbers_that_look_like_calls(self):
        line = [1, 2, 3, 3, 1, 3, 0, 0, 2, 3, 1, 3, 1, 1, 1, 1]
        self.assertEqual(answers(line), [1, 0, 1, 1, 1, 0, 1, 1, 1, 2])

    def test_120_calls(self):
        calls = [node(1)] * 64 + [rule(r, 4 * r) for r in range(16)] + [sound()] * 40
        line = [number for call in calls for number in call]
        told = [number for each in range(64) for number in (1, each)] + [1, 0] * 16 + [1, 1] * 40
        self.assertEqual(answers(line), told)

    def test_whole_numbers_and_a_list(self):
        given = answers([3, 1, 7, 0, 0, 3, 2, 0, 5])
        self.assertIs(type(given), list)
        self.assertEqual(given, [1, 1, 1, 0, 1, 0, 1, -1])
        self.assertEqual([type(number) for number in given], [int] * 8)


class SmallestAndLargest(unittest.TestCase):
    def test_node(self):
        for number in (LEAST, LARGEST):
            with self.subTest(number=number):
                self.assertEqual(answers([1, number, number, number]), [1, -1])
                self.assertEqual(answers([1, 0, number, number]), [1, 0])
                for kind in (2, 3, 4, 5, 6, 7):
                    self.assertEqual(answers([1, 0, 0, 0, 1, kind, number, number]), [1, 0, 1, -1])

    def test_rule(self):
        for number in (LEAST, LARGEST):
            with self.subTest(number=number):
                self.assertEqual(answers([1, 0, 0, 0, 2, number, 0, 2, 0, number, 2, number, number]),
                                 [1, 0, 1, -1, 1, -1, 1, -1])


class NothingIsKept(unittest.TestCase):
    def test_nodes_and_rules_are_gone(self):
        built = [1, 0, 0, 0, 1, 7, 4, 0, 2, 4, 0, 3]
        self.assertEqual(answers(built), [1, 0, 1, 1, 1, 0, 1, 1])
        self.assertEqual(answers([2, 4, 0, 1, 7, 4, 0, 3]), [1, -1, 1, 0, 1, 0])
        self.assertEqual(answers(built), [1, 0, 1, 1, 1, 0, 1, 1])

    def test_64_nodes_are_gone(self):
        full = [1, 0, 0, 0] * 65
        told = [number for each in range(64) for number in (1, each)] + [1, -2]
        self.assertEqual(answers(full), told)
        self.assertEqual(answers(full), told)

    def test_the_answer_is_a_list_of_its_own(self):
        first = answers([3])
        first.append(7)
        self.assertEqual(answers([3]), [1, 1])

    def test_what_was_handed_in_may_change_later(self):
        line = [1, 0, 0, 0, 3]
        given = answers(line)
        line.clear()
        self.assertEqual(given, [1, 0, 1, 1])


class WhatIsHandedInIsNotChanged(unittest.TestCase):
    def test_the_list_is_as_before(self):
        line = [1, 1, 5, 6, 1, 5, 0, 9, 1, 8, 0, 0, 2, 0, 1, 2, 16, 0, 3]
        before = list(line)
        answers(line)
        self.assertEqual(line, before)

    def test_not_for_a_while_either(self):
        line = FixedList([1, 1, 5, 6, 1, 5, 0, 9, 1, 8, 0, 0, 2, 0, 1, 2, 16, 0, 3])
        self.assertEqual(answers(line), [1, 0, 1, 1, 1, -1, 1, 0, 1, -1, 1, 1])


if __name__ == "__main__":
    unittest.main()
