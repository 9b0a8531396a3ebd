"""Grammars of 64 nodes, nodes asked within one another as deep as may be, and ways that are asked often."""

import sys
import unittest

from tests.helpers import ask_of, asked, check_same, take, uses

NOTHING = (0, 0, 0)
BYTE = (1, 0, 0)

TEXT = list(range(40))
# The uses where rule 0 asks for itself behind each byte and takes all.
NESTED = [number for place in range(1, 40) for number in (0, place, 40)]


def frames_under_way():
    frame = sys._getframe()
    count = 0
    while frame is not None:
        count += 1
        frame = frame.f_back
    return count


def down_chain(wrap):
    """Rule 0 = byte r0 under 61 nodes, the k-th of which is wrap(the node below it)."""
    nodes = [BYTE, (7, 0, 0), (3, 0, 1)]
    while len(nodes) < 64:
        nodes.append(wrap(len(nodes) - 1))
    return nodes


class AsDeepAsMayBe(unittest.TestCase):
    """Up to 63 nodes within one another at each of 41 places, while Python allows a hundred calls more."""

    def setUp(self):
        limit = sys.getrecursionlimit()
        self.addCleanup(sys.setrecursionlimit, limit)
        sys.setrecursionlimit(frames_under_way() + 100)

    def told(self, nodes, rules=((0, 63),), text=TEXT):
        return ask_of(nodes, rules, take(0, text), uses(0, 12288, text), asked(0, text))

    def test_through_the_first_way_of_kind_4(self):
        # The node right above asks for nothing where byte r0 fails, and the others only pass it on.
        nodes = [BYTE, (7, 0, 0), (3, 0, 1), NOTHING, (4, 2, 3)]
        while len(nodes) < 64:
            nodes.append((4, len(nodes) - 1, 3))
        check_same(self.told(nodes), [[40], [117] + NESTED, [40]])

    def test_through_the_second_way_of_kind_4(self):
        nodes = [BYTE, (7, 0, 0), (3, 0, 1), (2, 255, 255)]
        while len(nodes) < 63:
            nodes.append((4, 3, len(nodes) - 1 if len(nodes) > 4 else 2))
        nodes.append((4, 62, 3))
        check_same(self.told(nodes), [[-2], [-2], [40]])
        check_same(self.told(nodes, text=TEXT[:39] + [255]), [[40], [117] + NESTED, [39]])

    def test_through_kind_3(self):
        nodes = [BYTE, (7, 0, 0), (3, 0, 1), NOTHING, (4, 2, 3)]
        while len(nodes) < 64:
            below = len(nodes) - 1
            nodes.append((3, below, 3) if below % 2 else (3, 3, below))
        check_same(self.told(nodes), [[40], [117] + NESTED, [40]])

    def test_through_kind_6(self):
        # Not, 61 times over, is as once: r0 takes nothing where byte r0 fails, so it fails at every other length.
        nodes = down_chain(lambda below: (6, below, 0))
        check_same(self.told(nodes, text=[]), [[0], [0], [0]])
        for length in range(1, 41):
            with self.subTest(length=length):
                told = [[0], [0], [length]] if length % 2 == 0 else [[-2], [-2], [length]]
                check_same(self.told(nodes, text=TEXT[:length]), told)

    def test_through_kind_7(self):
        # r0 = r1, r1 = r2, .. r15 = byte r0 / nothing, with other nodes between.
        nodes = [NOTHING, BYTE, (7, 0, 0), (3, 1, 2), (4, 3, 0)]
        rules = [(15, 4)]
        for r in range(15, 0, -1):
            nodes += [(7, r, 0), (4, len(nodes), 0), (3, len(nodes) + 1, 0)]
            rules.append((r - 1, len(nodes) - 1))
        nodes += [(4, 4, 0)] * (64 - len(nodes))
        numbers = [number for place in range(40) for r in range(16) for number in (r, place, 40)][3:]
        check_same(self.told(nodes, rules), [[40], [1917] + numbers, [16 * 41 - 1]])

    def test_through_kind_5(self):
        # Each takes a byte, and the one below again and again behind it.
        nodes = [BYTE, (7, 0, 0), (3, 0, 1), (5, 2, 0)]
        check_same(self.told(nodes, [(0, 3)]), [[40], [117] + NESTED, [40]])
        nodes = [BYTE]
        while len(nodes) < 63:
            nodes += [(5, len(nodes) - 1, 0), (3, 0, len(nodes))]
        nodes.append((7, 1, 0))
        check_same(self.told(nodes, [(0, 63), (1, 62)]), [[40], [3, 1, 0, 40], [1]])

    def test_the_whole_depth_fails_at_the_end(self):
        nodes = down_chain(lambda below: (4, below, 2))
        check_same(self.told(nodes), [[-2], [-2], [40]])


class AskedOften(unittest.TestCase):
    """Asked anew each time, each node of these would double the time."""

    def told(self, nodes, rules, text=TEXT):
        return ask_of(nodes, rules, take(0, text), uses(0, 12288, text), asked(0, text))

    def test_nothing_twice_and_twice_again(self):
        nodes = [NOTHING, (7, 1, 0)] + [(3, e, e) for e in range(1, 63)]
        check_same(self.told(nodes, [(0, 63), (1, 0)]), [[0], [0], [1]])

    def test_nothing_twice_and_twice_again_ahead_of_a_byte(self):
        nodes = [NOTHING, (7, 1, 0)] + [(3, e, e) for e in range(1, 61)] + [BYTE, (3, 61, 62)]
        check_same(self.told(nodes, [(0, 63), (1, 0)]), [[1], [0], [1]])

    def test_both_ways_fail(self):
        nodes = [(2, 255, 255), (7, 1, 0)] + [(4, e, e) for e in range(1, 63)]
        check_same(self.told(nodes, [(0, 63), (1, 0)]), [[-2], [-2], [1]])

    def test_the_first_way_fails_late(self):
        # Each = the one below, then what fails / the one below
        nodes = [BYTE, (7, 1, 0), (2, 255, 255)]
        below = 1
        while len(nodes) < 63:
            nodes += [(3, below, 2), (4, len(nodes), below)]
            below = len(nodes) - 1
        nodes.append((4, below, below))
        check_same(self.told(nodes, [(0, 63), (1, 0)]), [[1], [3, 1, 0, 1], [1]])

    def test_a_rule_with_two_ways_at_each_place(self):
        # r0 = byte r0 z / byte r0 / nothing, and no z comes.
        nodes = [BYTE, (7, 0, 0), (2, 122, 122), (3, 0, 1), (3, 3, 2), NOTHING, (4, 3, 5), (4, 4, 6)]
        check_same(self.told(nodes, [(0, 7)]), [[40], [117] + NESTED, [40]])

    def test_again_at_each_place(self):
        # Ways that each take all, then look for what does not come, from each place on.
        nodes = [BYTE, (2, 255, 255), (7, 0, 0), (3, 0, 2), NOTHING, (4, 3, 4)]
        below = 5
        while len(nodes) < 62:
            nodes += [(5, 0, 0), (3, len(nodes), 1), (4, len(nodes) + 1, below)]
            below = len(nodes) - 1
        check_same(self.told(nodes, [(0, below)]), [[40], [117] + NESTED, [40]])


if __name__ == "__main__":
    unittest.main()
