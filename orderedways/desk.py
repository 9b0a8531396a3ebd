"""The desk: answers a list of calls, all about one grammar that is new."""

from orderedways.grammar import Grammar
from orderedways.soundness import is_sound

NODE_CALL = 1
RULE_CALL = 2
SOUND_CALL = 3


class UnknownCall(ValueError):
    """A call's number is none that the desk answers."""


class Reader:
    """Reads whole numbers off a list, one behind another, and leaves the list as it is."""

    def __init__(self, numbers):
        self.numbers = numbers
        self.place = 0

    def at_end(self):
        return self.place >= len(self.numbers)

    def read_number(self):
        number = self.numbers[self.place]
        self.place = self.place + 1
        return number


def answers(calls):
    """For each call in order: how many numbers are answered, then these."""
    grammar = Grammar()
    reader = Reader(calls)
    given = []
    while not reader.at_end():
        answer = answer_call(grammar, reader)
        given.append(len(answer))
        given.extend(answer)
    return given


def answer_call(grammar, reader):
    call = reader.read_number()
    if call == NODE_CALL:
        return answer_node(grammar, reader)
    if call == RULE_CALL:
        return answer_rule(grammar, reader)
    if call == SOUND_CALL:
        return [1 if is_sound(grammar) else 0]
    raise UnknownCall(f"no such call: {call}")


def answer_node(grammar, reader):
    kind = reader.read_number()
    a = reader.read_number()
    b = reader.read_number()
    return [grammar.add_node(kind, a, b)]


def answer_rule(grammar, reader):
    rule = reader.read_number()
    number = reader.read_number()
    return [grammar.set_rule(rule, number)]
