"""The desk: answers a list of calls, all about one grammar that is new."""

from orderedways.grammar import NO_SUCH, Grammar
from orderedways.reading import FAILED, read_text
from orderedways.soundness import is_sound
from orderedways.uses import numbers_of_uses

NODE_CALL = 1
RULE_CALL = 2
SOUND_CALL = 3
TAKE_CALL = 4
USES_CALL = 5
ASKED_CALL = 6

MOST_BYTES = 128
MOST_TOLD = 12288

UNSOUND = -3


class UnknownCall(ValueError):
    """A call's number is none that the desk answers."""


class Reader:
    """Reads whole numbers off a list, one behind another, and leaves the list as it is."""

    def __init__(self, numbers):
        self.numbers = numbers
        self.place = 0

    def at_end(self):
        return self.place >= len(self.numbers)

    def read_number(self):
        number = self.numbers[self.place]
        self.place = self.place + 1
        return number

    def read_row(self):
        """The numbers of a row, which has how many they are before it."""
        count = self.read_number()
        begin = self.place
        self.place = begin + count
        return self.numbers[begin:self.place]


def answers(calls):
    """For each call in order: how many numbers are answered, then these."""
    grammar = Grammar()
    reader = Reader(calls)
    given = []
    while not reader.at_end():
        answer = answer_call(grammar, reader)
        given.append(len(answer))
        given.extend(answer)
    return given


def answer_call(grammar, reader):
    call = reader.read_number()
    if call == NODE_CALL:
        return answer_node(grammar, reader)
    if call == RULE_CALL:
        return answer_rule(grammar, reader)
    if call == SOUND_CALL:
        return [1 if is_sound(grammar) else 0]
    if call == TAKE_CALL:
        return answer_take(grammar, reader)
    if call == USES_CALL:
        return answer_uses(grammar, reader)
    if call == ASKED_CALL:
        return answer_asked(grammar, reader)
    raise UnknownCall(f"no such call: {call}")


def answer_node(grammar, reader):
    kind = reader.read_number()
    a = reader.read_number()
    b = reader.read_number()
    return [grammar.add_node(kind, a, b)]


def answer_rule(grammar, reader):
    rule = reader.read_number()
    number = reader.read_number()
    return [grammar.set_rule(rule, number)]


def answer_take(grammar, reader):
    rule = reader.read_number()
    text = reader.read_row()
    refused = refusal(grammar, rule, text)
    if refused is not None:
        return [refused]
    return [read_text(grammar, rule, text).outcome()]


def answer_uses(grammar, reader):
    rule = reader.read_number()
    most = reader.read_number()
    text = reader.read_row()
    refused = refusal(grammar, rule, text)
    if refused is not None:
        return [refused]
    reading = read_text(grammar, rule, text)
    if reading.outcome() == FAILED:
        return [FAILED]
    told = numbers_of_uses(reading)
    return [len(told)] + first_of(told, most)


def answer_asked(grammar, reader):
    rule = reader.read_number()
    text = reader.read_row()
    refused = refusal(grammar, rule, text)
    if refused is not None:
        return [refused]
    return [read_text(grammar, rule, text).count_rules_asked()]


def refusal(grammar, rule, text):
    """Why no text is read by the rule, or None."""
    if not grammar.has_rule(rule) or len(text) > MOST_BYTES:
        return NO_SUCH
    if not is_sound(grammar):
        return UNSOUND
    return None


def first_of(numbers, most):
    return numbers[:most] if 1 <= most <= MOST_TOLD else []
