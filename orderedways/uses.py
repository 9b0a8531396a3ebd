"""The uses of rules that make what a node takes, told from a reading that has come to its end."""

from orderedways.grammar import AGAIN, BOTH, EITHER, RULE_USE
from orderedways.reading import FAILED


def numbers_of_uses(reading):
    """Of each use in order: the rule, the place, the place behind."""
    told = []
    waiting = [reading.start]
    while waiting:
        asked = waiting.pop()
        place = asked[1]
        behind = reading.known[asked]
        # Where nothing is taken no use is told, and walking on there could double with each node.
        if behind == place:
            continue
        node = reading.grammar.nodes[asked[0]]
        if node.kind == RULE_USE:
            told.extend([node.a, place, behind])
        # What is taken off next is the last of the list, so the first maker goes there.
        waiting.extend(list(reversed(makers(reading, node, place))))
    return told


def makers(reading, node, place):
    """The nodes and places, in order, whose uses make what the node takes there."""
    if node.kind == BOTH:
        return [(node.a, place), (node.b, reading.known[(node.a, place)])]
    if node.kind == EITHER:
        failed = reading.known[(node.a, place)] == FAILED
        return [(node.b if failed else node.a, place)]
    if node.kind == AGAIN:
        return each_time(reading, node.a, place)
    if node.kind == RULE_USE:
        return [(reading.grammar.rules[node.a], place)]
    return []


def each_time(reading, number, place):
    """The node at each place where it was asked again and took."""
    times = []
    asked = (number, place)
    while reading.known[asked] != FAILED:
        times.append(asked)
        asked = (number, reading.known[asked])
    return times
