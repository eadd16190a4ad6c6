"""What the program answers: the calls that the document names."""

from postnames.making import OutOfRange, checked_short, make_question, make_record
from postnames.naming import NotName
from postnames.reading import MOST_BYTES, NotMessage, read_message
from postnames.telling import tell_message
from postnames.writing import Draft, OutOfOrder, TooLong

DONE = 0
WRONG = -1
TOO_MUCH = -2

BEGIN = 1
QUESTION = 2
RECORD = 3


class Calls:
    """Takes one number or row after another from the list of calls."""

    def __init__(self, numbers):
        self.numbers = numbers
        self.at = 0

    def are_left(self):
        return self.at < len(self.numbers)

    def take_one(self):
        number = self.numbers[self.at]
        self.at += 1
        return number

    def take_row(self):
        """The numbers of a row, which has how many they are before it."""
        size = self.take_one()
        began = self.at
        self.at = began + size
        return self.numbers[began:self.at]


def text(most, message):
    """How many bytes the message's text has, and these; or a refusal alone."""
    if len(message) > MOST_BYTES:
        return [WRONG]
    try:
        told = tell_message(read_message(message))
    except NotMessage:
        return [WRONG]
    if len(told) > most:
        return [TOO_MUCH]
    return [len(told)] + told


def answers(calls):
    """For each call, in order, how many numbers are answered, and these."""
    draft = Draft()
    taken = Calls(calls)
    told = []
    while taken.are_left():
        answer = answer_call(draft, taken)
        told.append(len(answer))
        told.extend(answer)
    return told


def answer_call(draft, calls):
    """The answer to the next call; what is refused has left the draft as it was."""
    try:
        return carry_out(draft, calls)
    except OutOfRange:
        return [WRONG]
    except NotName:
        return [WRONG]
    except NotMessage:
        return [WRONG]
    except OutOfOrder:
        return [WRONG]
    except TooLong:
        return [TOO_MUCH]


def carry_out(draft, calls):
    call = calls.take_one()
    if call == BEGIN:
        return begin(draft, calls)
    if call == QUESTION:
        return add_question(draft, calls)
    if call == RECORD:
        return add_record(draft, calls)
    return give_message(draft, calls)


# All that belongs to a call is taken before any of it may be refused: the next call stands behind it.

def begin(draft, calls):
    number = calls.take_one()
    flags = calls.take_one()
    draft.begin_anew(checked_short(number), checked_short(flags))
    return [DONE]


def add_question(draft, calls):
    kind = calls.take_one()
    cls = calls.take_one()
    name = calls.take_row()
    draft.add_entry(make_question(kind, cls, name))
    return [DONE]


def add_record(draft, calls):
    section = calls.take_one()
    kind = calls.take_one()
    cls = calls.take_one()
    ttl = calls.take_one()
    name = calls.take_row()
    data = calls.take_row()
    draft.add_entry(make_record(section, kind, cls, ttl, name, data))
    return [DONE]


def give_message(draft, calls):
    whole = draft.whole_within(calls.take_one())
    return [len(whole)] + whole
