"""Whether a grammar is sound: what may come of its nodes, and which are good.

What may come of a node is one whole number, in which each of NOTHING, SOMETHING
and FAILS is a bit.
"""

from orderedways.grammar import AGAIN, ANY_BYTE, BOTH, BYTE_BETWEEN, EITHER, NO_BYTE, NOT_AHEAD

NOTHING = 1
SOMETHING = 2
TAKES = 3
FAILS = 4


def is_sound(grammar):
    return all(good_nodes(grammar))


def good_nodes(grammar):
    """For each node, whether it is good."""
    comings = what_may_come(grammar)
    return settled(grammar, False, lambda node, good: is_good(grammar, node, comings, good))


def what_may_come(grammar):
    """For each node, what may come of it."""
    return settled(grammar, 0, lambda node, known: may_come(grammar, node, known))


def settled(grammar, start, follows):
    """Each node's value, from start on, once follows(node, values) changes none.

    The rules hold only as far as they lead. So all values begin at the least one,
    and each step adds only what follows from those already found: what a node could
    draw from itself alone is never added.
    """
    values = [start] * len(grammar.nodes)
    changed = True
    while changed:
        changed = False
        for number, node in enumerate(grammar.nodes):
            value = follows(node, values)
            if value != values[number]:
                values[number] = value
                changed = True
    return values


def may_come(grammar, node, known):
    """What may come of the node, as far as known tells of the others."""
    if node.kind == NO_BYTE:
        return NOTHING
    if node.kind == ANY_BYTE or node.kind == BYTE_BETWEEN:
        return SOMETHING | FAILS
    if node.kind == BOTH:
        return may_come_of_both(known[node.a], known[node.b])
    if node.kind == EITHER:
        return may_come_of_either(known[node.a], known[node.b])
    if node.kind == AGAIN:
        return (known[node.a] & SOMETHING) | nothing_if_fails(known[node.a])
    if node.kind == NOT_AHEAD:
        return fails_if_takes(known[node.a]) | nothing_if_fails(known[node.a])
    target = grammar.rules[node.a]
    return 0 if target is None else known[target]


def may_come_of_both(first, second):
    found = first & FAILS
    if first & TAKES:
        found = found | (second & FAILS)
    if first & TAKES and second & TAKES:
        found = found | (first & second & NOTHING) | ((first | second) & SOMETHING)
    return found


def may_come_of_either(first, second):
    found = first & TAKES
    if first & FAILS:
        found = found | second
    return found


def nothing_if_fails(coming):
    return NOTHING if coming & FAILS else 0


def fails_if_takes(coming):
    return FAILS if coming & TAKES else 0


def never_nothing(coming):
    return coming & NOTHING == 0


def is_good(grammar, node, comings, good):
    """Whether the node is good, as far as good tells of the others."""
    if node.kind == NO_BYTE or node.kind == ANY_BYTE or node.kind == BYTE_BETWEEN:
        return True
    if node.kind == BOTH:
        return good[node.a] and (good[node.b] or never_nothing(comings[node.a]))
    if node.kind == EITHER:
        return good[node.a] and good[node.b]
    if node.kind == AGAIN:
        return good[node.a] and never_nothing(comings[node.a])
    if node.kind == NOT_AHEAD:
        return good[node.a]
    target = grammar.rules[node.a]
    return target is not None and good[target]
