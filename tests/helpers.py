"""How the tests write a list of calls down, and how they read its answers."""

from orderedways.desk import answers

LEAST = -2147483648
LARGEST = 2147483647


def node(kind, a=0, b=0):
    return [1, kind, a, b]


def rule(r, e):
    return [2, r, e]


def sound():
    return [3]


def take(r, text):
    return [4, r, len(text), *text]


def uses(r, most, text):
    return [5, r, most, len(text), *text]


def asked(r, text):
    return [6, r, len(text), *text]


def ask(*calls):
    """The answer of each call, as a list of its numbers; the counts are checked on the way."""
    line = [number for call in calls for number in call]
    given = answers(line)
    told = []
    place = 0
    while place < len(given):
        behind = place + 1 + given[place]
        told.append(given[place + 1:behind])
        place = behind
    if place != len(given) or len(told) != len(calls):
        raise AssertionError(f"the counts don't fit the answers: {given}")
    return told


def first_numbers(*calls):
    """The one number that each call answers."""
    told = ask(*calls)
    if any(len(answer) != 1 for answer in told):
        raise AssertionError(f"more or less than one number: {told}")
    return [answer[0] for answer in told]


def ask_of(nodes, rules, *calls):
    """The answers of the calls on a grammar: nodes as (kind, a, b), rules as (r, e)."""
    built = [node(*each) for each in nodes] + [rule(*each) for each in rules]
    told = ask(*built, *calls)
    if told[:len(built)] != [[e] for e in range(len(nodes))] + [[0]] * len(rules):
        raise AssertionError(f"a node or rule was refused: {told}")
    return told[len(built):]


def check_same(given, told):
    """As assertEqual, for long lists: their difference line by line would take minutes to find."""
    if given != told:
        raise AssertionError(f"{str(given)[:300]} .. is not {str(told)[:300]} ..")


def soundness(nodes, rules=()):
    """What sound answers of a grammar."""
    return ask_of(nodes, rules, sound())[0][0]
