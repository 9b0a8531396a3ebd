"""Point 3: sound."""

import unittest

from tests.helpers import first_numbers, node, rule, sound, soundness


class WithoutRules(unittest.TestCase):
    def test_without_nodes(self):
        self.assertEqual(first_numbers(sound()), [1])

    def test_kinds_that_ask_nothing(self):
        self.assertEqual(soundness([(0, 0, 0), (1, 0, 0), (2, 0, 255), (2, 7, 7)]), 1)

    def test_kinds_over_them(self):
        self.assertEqual(soundness([(0, 0, 0), (1, 0, 0), (3, 0, 1), (4, 0, 1), (5, 1, 0), (6, 0, 0)]), 1)

    def test_all_nodes_count_not_only_those_of_rules(self):
        self.assertEqual(soundness([(1, 0, 0), (0, 0, 0), (5, 1, 0)], [(0, 0)]), 0)
        self.assertEqual(soundness([(0, 0, 0), (5, 0, 0), (1, 0, 0)], [(0, 2)]), 0)

    def test_sound_changes_nothing(self):
        told = first_numbers(node(0), sound(), sound(), node(5, 0), sound(), sound(), node(0))
        self.assertEqual(told, [0, 1, 1, 1, 0, 0, 2])


class AgainOverWhatMayTakeNothing(unittest.TestCase):
    """Kind 5 over node 3 or later; 0, 1 and 2 are: takes nothing, takes or fails, always fails."""

    def again_over(self, *nodes):
        grammar = [(0, 0, 0), (1, 0, 0), (6, 0, 0), *nodes]
        return soundness(grammar + [(5, len(grammar) - 1, 0)])

    def test_straight(self):
        self.assertEqual(self.again_over((0, 0, 0)), 0)
        self.assertEqual(self.again_over((1, 0, 0)), 1)
        self.assertEqual(self.again_over((2, 0, 255)), 1)
        self.assertEqual(self.again_over((6, 0, 0)), 1)

    def test_over_kind_3(self):
        for a, b, told in ((0, 0, 0), (0, 1, 1), (1, 0, 1), (1, 1, 1), (0, 2, 1), (2, 0, 1), (2, 2, 1)):
            with self.subTest(a=a, b=b):
                self.assertEqual(self.again_over((3, a, b)), told)

    def test_over_kind_4(self):
        for a, b, told in ((0, 0, 0), (0, 1, 0), (1, 0, 0), (1, 1, 1), (2, 0, 0), (2, 1, 1), (2, 2, 1)):
            with self.subTest(a=a, b=b):
                self.assertEqual(self.again_over((4, a, b)), told)

    def test_the_second_way_of_one_that_never_fails_is_not_counted(self):
        # 6 over what never fails always fails, so 5 over that is good.
        self.assertEqual(self.again_over((4, 0, 1), (6, 3, 0)), 1)
        self.assertEqual(self.again_over((4, 1, 0), (6, 3, 0)), 1)
        self.assertEqual(self.again_over((4, 1, 1), (6, 3, 0)), 0)

    def test_over_kind_5(self):
        self.assertEqual(self.again_over((5, 1, 0)), 0)
        # As its a always fails, it takes nothing.
        self.assertEqual(self.again_over((5, 2, 0)), 0)

    def test_over_kind_6(self):
        self.assertEqual(self.again_over((6, 0, 0)), 1)
        self.assertEqual(self.again_over((6, 1, 0)), 0)
        self.assertEqual(self.again_over((6, 2, 0)), 0)
        self.assertEqual(self.again_over((6, 1, 0), (6, 3, 0)), 0)

    def test_over_kind_7(self):
        self.assertEqual(soundness([(0, 0, 0), (7, 2, 0), (5, 1, 0)], [(2, 0)]), 0)
        self.assertEqual(soundness([(1, 0, 0), (7, 2, 0), (5, 1, 0)], [(2, 0)]), 1)


class WhetherAKindMayFail(unittest.TestCase):
    """6 over it takes nothing just where it may fail, and 5 over that tells."""

    def may_fail(self, *nodes):
        grammar = [(0, 0, 0), (1, 0, 0), (6, 0, 0), *nodes]
        top = len(grammar) - 1
        return 1 - soundness(grammar + [(6, top, 0), (5, top + 1, 0)])

    def test_0_1_2(self):
        self.assertEqual(self.may_fail((0, 0, 0)), 0)
        self.assertEqual(self.may_fail((1, 0, 0)), 1)
        self.assertEqual(self.may_fail((2, 0, 255)), 1)

    def test_3(self):
        for a, b, told in ((0, 0, 0), (0, 1, 1), (1, 0, 1), (1, 1, 1), (0, 2, 1), (2, 0, 1)):
            with self.subTest(a=a, b=b):
                self.assertEqual(self.may_fail((3, a, b)), told)

    def test_4(self):
        for a, b, told in ((0, 0, 0), (0, 1, 0), (0, 2, 0), (1, 0, 0), (1, 1, 1), (1, 2, 1), (2, 0, 0), (2, 2, 1)):
            with self.subTest(a=a, b=b):
                self.assertEqual(self.may_fail((4, a, b)), told)

    def test_5(self):
        self.assertEqual(self.may_fail((5, 1, 0)), 0)
        self.assertEqual(self.may_fail((5, 2, 0)), 0)

    def test_6(self):
        self.assertEqual(self.may_fail((6, 0, 0)), 1)
        self.assertEqual(self.may_fail((6, 1, 0)), 1)
        self.assertEqual(self.may_fail((6, 2, 0)), 0)


    def test_7(self):
        self.assertEqual(soundness([(1, 0, 0), (7, 3, 0), (6, 1, 0), (5, 2, 0)], [(3, 0)]), 0)
        self.assertEqual(soundness([(0, 0, 0), (7, 3, 0), (6, 1, 0), (5, 2, 0)], [(3, 0)]), 1)


class WhetherAKindMayTake(unittest.TestCase):
    """6 over it may fail just where it may take; 6 over that then takes nothing, and 5 over that tells."""

    def may_take(self, *nodes, rules=()):
        grammar = [(0, 0, 0), (1, 0, 0), (6, 0, 0), *nodes]
        top = len(grammar) - 1
        return 1 - soundness(grammar + [(6, top, 0), (6, top + 1, 0), (5, top + 2, 0)], rules)

    def test_0_1_2(self):
        self.assertEqual(self.may_take((0, 0, 0)), 1)
        self.assertEqual(self.may_take((1, 0, 0)), 1)
        self.assertEqual(self.may_take((2, 0, 0)), 1)

    def test_3(self):
        pairs = ((0, 0, 1), (0, 1, 1), (1, 0, 1), (1, 1, 1), (0, 2, 0), (2, 0, 0), (1, 2, 0), (2, 1, 0), (2, 2, 0))
        for a, b, told in pairs:
            with self.subTest(a=a, b=b):
                self.assertEqual(self.may_take((3, a, b)), told)

    def test_4(self):
        for a, b, told in ((0, 2, 1), (1, 2, 1), (2, 0, 1), (2, 1, 1), (2, 2, 0)):
            with self.subTest(a=a, b=b):
                self.assertEqual(self.may_take((4, a, b)), told)

    def test_5_and_6(self):
        self.assertEqual(self.may_take((5, 1, 0)), 1)
        self.assertEqual(self.may_take((5, 2, 0)), 1)
        self.assertEqual(self.may_take((6, 0, 0)), 0)
        self.assertEqual(self.may_take((6, 1, 0)), 1)
        self.assertEqual(self.may_take((6, 2, 0)), 1)

    def test_7(self):
        for e, told in ((0, 1), (1, 1), (2, 0)):
            with self.subTest(e=e):
                self.assertEqual(self.may_take((7, 9, 0), rules=[(9, e)]), told)


class RuleWithoutANode(unittest.TestCase):
    def test_kind_7_of_it(self):
        self.assertEqual(soundness([(7, 0, 0)]), 0)
        self.assertEqual(soundness([(0, 0, 0), (7, 1, 0)], [(0, 0)]), 0)

    def test_behind_something_taken_too(self):
        # Node 2 is good as its a may not take nothing, but node 1 is not.
        self.assertEqual(soundness([(1, 0, 0), (7, 0, 0), (3, 0, 1)]), 0)

    def test_no_node_asks_for_it(self):
        self.assertEqual(soundness([(1, 0, 0)]), 1)

    def test_node_given_later(self):
        self.assertEqual(first_numbers(node(7, 5), sound(), node(0), sound(), rule(5, 1), sound()), [0, 0, 1, 0, 0, 1])


class BackBeforeAnythingIsTaken(unittest.TestCase):
    def test_straight(self):
        self.assertEqual(soundness([(7, 0, 0)], [(0, 0)]), 0)

    def test_through_several_rules(self):
        self.assertEqual(soundness([(7, 1, 0), (7, 2, 0), (7, 0, 0)], [(0, 0), (1, 1), (2, 2)]), 0)

    def test_through_all_rules(self):
        round_all = [(7, (r + 1) % 16, 0) for r in range(16)]
        self.assertEqual(soundness(round_all, [(r, r) for r in range(16)]), 0)
        ending = round_all[:15] + [(1, 0, 0)]
        self.assertEqual(soundness(ending, [(r, r) for r in range(16)]), 1)

    def test_through_the_first_of_kind_3(self):
        self.assertEqual(soundness([(7, 0, 0), (1, 0, 0), (3, 0, 1)], [(0, 2)]), 0)

    def test_through_the_second_of_kind_3(self):
        self.assertEqual(soundness([(7, 0, 0), (0, 0, 0), (3, 1, 0)], [(0, 2)]), 0)
        # Ahead of it stands what may take something, but also nothing: 5, 4 and 6.
        self.assertEqual(soundness([(7, 0, 0), (1, 0, 0), (5, 1, 0), (3, 2, 0)], [(0, 3)]), 0)
        self.assertEqual(soundness([(7, 0, 0), (1, 0, 0), (0, 0, 0), (4, 1, 2), (3, 3, 0)], [(0, 4)]), 0)
        self.assertEqual(soundness([(7, 0, 0), (1, 0, 0), (6, 1, 0), (3, 2, 0)], [(0, 3)]), 0)

    def test_through_the_first_of_kind_4(self):
        self.assertEqual(soundness([(7, 0, 0), (1, 0, 0), (4, 0, 1)], [(0, 2)]), 0)

    def test_through_the_second_of_kind_4(self):
        self.assertEqual(soundness([(7, 0, 0), (1, 0, 0), (4, 1, 0)], [(0, 2)]), 0)
        # Though the first way never fails, so that the second is never asked.
        self.assertEqual(soundness([(7, 0, 0), (0, 0, 0), (4, 1, 0)], [(0, 2)]), 0)

    def test_through_kind_5(self):
        self.assertEqual(soundness([(7, 0, 0), (5, 0, 0)], [(0, 1)]), 0)

    def test_through_kind_6(self):
        self.assertEqual(soundness([(7, 0, 0), (6, 0, 0)], [(0, 1)]), 0)

    def test_left_chain_of_sums(self):
        # sum = sum "+" digit / digit
        nodes = [(7, 0, 0), (2, 43, 43), (2, 48, 57), (3, 0, 1), (3, 3, 2), (4, 4, 2)]
        self.assertEqual(soundness(nodes, [(0, 5)]), 0)


class BackBehindSomethingTaken(unittest.TestCase):
    def test_behind_a_byte(self):
        self.assertEqual(soundness([(7, 0, 0), (1, 0, 0), (3, 1, 0)], [(0, 2)]), 1)
        self.assertEqual(soundness([(7, 0, 0), (2, 9, 9), (3, 1, 0)], [(0, 2)]), 1)

    def test_behind_what_always_fails(self):
        self.assertEqual(soundness([(7, 0, 0), (0, 0, 0), (6, 1, 0), (3, 2, 0)], [(0, 3)]), 1)

    def test_behind_a_byte_through_kinds_4_to_6(self):
        for kind in (4, 6):
            with self.subTest(kind=kind):
                nodes = [(7, 0, 0), (1, 0, 0), (3, 1, 0), (kind, 2, 1)]
                self.assertEqual(soundness(nodes, [(0, 3)]), 1)
        self.assertEqual(soundness([(7, 0, 0), (1, 0, 0), (3, 1, 0), (5, 2, 0)], [(0, 3)]), 1)

    def test_behind_a_rule_that_takes_a_byte(self):
        nodes = [(7, 0, 0), (7, 1, 0), (1, 0, 0), (3, 1, 0)]
        self.assertEqual(soundness(nodes, [(0, 3), (1, 2)]), 1)
        self.assertEqual(soundness(nodes, [(0, 3), (1, 3)]), 0)

    def test_several_rules(self):
        # r0 = byte r1, r1 = r2 byte, r2 = r0 / nothing
        nodes = [(1, 0, 0), (7, 0, 0), (7, 1, 0), (7, 2, 0), (0, 0, 0), (3, 0, 2), (3, 3, 0), (4, 1, 4)]
        self.assertEqual(soundness(nodes, [(0, 5), (1, 6), (2, 7)]), 1)
        # r0 = r1 byte instead: back to itself with nothing taken.
        nodes[5] = (3, 2, 0)
        self.assertEqual(soundness(nodes, [(0, 5), (1, 6), (2, 7)]), 0)

    def test_brackets(self):
        # r0 = ("(" r0 ")")*
        nodes = [(2, 40, 40), (7, 0, 0), (2, 41, 41), (3, 0, 1), (3, 3, 2), (5, 4, 0)]
        self.assertEqual(soundness(nodes, [(0, 5)]), 1)
        # r0 = (r0)*, with no brackets that take a byte first
        self.assertEqual(soundness([(7, 0, 0), (5, 0, 0)], [(0, 1)]), 0)

    def test_sums_from_the_right(self):
        # sum = digit "+" sum / digit
        nodes = [(7, 0, 0), (2, 43, 43), (2, 48, 57), (3, 2, 1), (3, 3, 0), (4, 4, 2)]
        self.assertEqual(soundness(nodes, [(0, 5)]), 1)


class AsFarAsTheRulesLead(unittest.TestCase):
    def test_what_only_comes_round_does_not_come(self):
        # Nothing may come of node 0; so node 1 may not take nothing, and is still not good.
        self.assertEqual(soundness([(7, 0, 0), (5, 0, 0)], [(0, 0)]), 0)

    def test_a_rule_that_always_asks_itself_never_takes(self):
        # r0 = byte r0 fails at the text's end at last. So 6 over it never fails, 6 over that always, and 5 is good.
        nodes = [(1, 0, 0), (7, 0, 0), (3, 0, 1), (6, 2, 0), (6, 3, 0), (5, 4, 0)]
        self.assertEqual(soundness(nodes, [(0, 2)]), 1)
        # With a way out, r0 = byte r0 / byte, it may take, and 5 stands over what may take nothing.
        nodes = [(1, 0, 0), (7, 0, 0), (3, 0, 1), (4, 2, 0), (6, 3, 0), (6, 4, 0), (5, 5, 0)]
        self.assertEqual(soundness(nodes, [(0, 3)]), 0)
        self.assertEqual(soundness(nodes[:6], [(0, 3)]), 1)

    def test_two_rules_that_always_ask_each_other_never_take(self):
        nodes = [(1, 0, 0), (7, 0, 0), (7, 1, 0), (3, 0, 2), (3, 0, 1), (6, 1, 0), (6, 5, 0), (5, 6, 0)]
        self.assertEqual(soundness(nodes, [(0, 3), (1, 4)]), 1)
        self.assertEqual(soundness(nodes, [(0, 3), (1, 0)]), 0)

    def test_nothing_found_round_a_rule(self):
        # r0 = byte r0 / nothing may take nothing, so kind 5 over it is not good.
        nodes = [(7, 0, 0), (1, 0, 0), (0, 0, 0), (3, 1, 0), (4, 3, 2)]
        self.assertEqual(soundness(nodes, [(0, 4)]), 1)
        self.assertEqual(soundness(nodes + [(5, 4, 0)], [(0, 4)]), 0)
        self.assertEqual(soundness(nodes + [(5, 3, 0)], [(0, 4)]), 1)


class RuleSetAnewBetween(unittest.TestCase):
    def test_to_and_fro(self):
        told = first_numbers(
            node(7, 0), node(1), node(3, 1, 0), node(3, 0, 1),
            rule(0, 2), sound(), rule(0, 3), sound(), rule(0, 1), sound(), rule(0, 0), sound(), rule(0, 2), sound(),
        )
        # With rule 0 at node 2, node 3 asks rule 0 first: that's good, as it comes to the byte.
        self.assertEqual(told[4:], [0, 1, 0, 0, 0, 1, 0, 0, 0, 1])

    def test_node_added_between(self):
        told = first_numbers(node(1), rule(0, 0), sound(), node(7, 0), sound(), node(7, 1), sound(), rule(1, 1), sound(),
                             rule(0, 2), sound())
        self.assertEqual(told, [0, 0, 1, 1, 1, 2, 0, 0, 1, 0, 0])


class LongChains(unittest.TestCase):
    def test_each_over_the_one_before(self):
        for kind in (3, 4, 6):
            with self.subTest(kind=kind):
                self.assertEqual(soundness([(1, 0, 0)] + [(kind, e, e) for e in range(63)]), 1)
                self.assertEqual(soundness([(7, 0, 0)] + [(kind, e, e) for e in range(63)]), 0)
                self.assertEqual(soundness([(7, 0, 0)] + [(kind, e, e) for e in range(63)], [(0, 63)]), 0)

    def test_a_byte_at_the_end_of_a_chain(self):
        # Node 0 is rule 0, node 1 a byte; each later one asks the byte, then the one before.
        nodes = [(7, 0, 0), (1, 0, 0)] + [(3, 1, 0)] + [(3, 1, e) for e in range(2, 63)]
        self.assertEqual(len(nodes), 64)
        self.assertEqual(soundness(nodes, [(0, 63)]), 1)
        nodes[1] = (0, 0, 0)
        self.assertEqual(soundness(nodes, [(0, 63)]), 0)

    def test_a_byte_found_only_at_the_far_end(self):
        # A chain of 3 over nothing, that ends in a byte: only then something is taken.
        nodes = [(0, 0, 0), (1, 0, 0), (3, 0, 1)] + [(3, 0, e) for e in range(2, 61)] + [(7, 0, 0), (3, 61, 62)]
        self.assertEqual(len(nodes), 64)
        self.assertEqual(soundness(nodes, [(0, 63)]), 1)
        nodes[1] = (0, 0, 0)
        self.assertEqual(soundness(nodes, [(0, 63)]), 0)

    def test_rules_told_from_last_to_first(self):
        # Each rule's node is added ahead of the one it asks, so what is found runs against the numbers.
        nodes = []
        rules = []
        for r in range(15):
            nodes += [(7, r + 1, 0), (0, 0, 0), (3, 4 * r, 4 * r + 1), (3, 4 * r + 1, 4 * r + 2)]
            rules.append((r, 4 * r + 3))
        byte = len(nodes)
        grammar = nodes + [(1, 0, 0), (7, 0, 0), (3, byte + 1, byte), (5, byte + 2, 0)]
        self.assertEqual(len(grammar), 64)
        self.assertEqual(soundness(grammar, rules + [(15, byte)]), 1)
        self.assertEqual(soundness(grammar, rules + [(15, 1)]), 1)
        self.assertEqual(soundness(grammar, rules + [(15, byte + 2)]), 0)
        grammar[63] = (5, byte + 1, 0)
        self.assertEqual(soundness(grammar, rules + [(15, byte)]), 1)
        self.assertEqual(soundness(grammar, rules + [(15, 1)]), 0)


if __name__ == "__main__":
    unittest.main()
