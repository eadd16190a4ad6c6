"""Puts messages and calls together for the tests, and asks the program about them."""

from postnames.desk import answers, text

HEADER = 12
MOST = 2147483647
# Where the data of a message's first entry lies, if that is a record of the root.
FIRST_DATA = HEADER + 1 + 10


class Guarded(list):
    """A list that tells if it is changed, be it for a while only."""

    def refuse(self, *given):
        raise AssertionError("what was handed in is changed")

    __setitem__ = __delitem__ = __iadd__ = __imul__ = refuse
    append = extend = insert = pop = remove = clear = sort = reverse = refuse


def two(number):
    return list(number.to_bytes(2, "big"))


def four(number):
    return list(number.to_bytes(4, "big"))


def pointer(place):
    return two(49152 + place)


def labels(*parts):
    """Labels without an end; a part is a text or a list of bytes."""
    out = []
    for part in parts:
        part = list(part.encode("ascii")) if isinstance(part, str) else list(part)
        out += [len(part)] + part
    return out


def name(*parts):
    return labels(*parts) + [0]


def question(owner, kind=1, cls=1):
    return owner + two(kind) + two(cls)


def record(owner, kind, data, cls=1, ttl=0):
    return owner + two(kind) + two(cls) + four(ttl) + two(len(data)) + data


def message(questions=(), answers=(), authorities=(), more=(), number=0, flags=0):
    sections = (questions, answers, authorities, more)
    out = two(number) + two(flags)
    for section in sections:
        out += two(len(section))
    for section in sections:
        for entry in section:
            out += entry
    return out


def behind_bytes(before, owner, kind=10, data=()):
    """A message with these bytes from FIRST_DATA on and a record behind them.

    The record's own bytes begin at FIRST_DATA and as many places on as there are bytes.
    """
    return message(answers=[record([0], 10, list(before)), record(list(owner), kind, list(data))])


def tell(bytes_of_message, most=MOST):
    """The text as a text, or the refusal as a number; the count must be right."""
    answer = text(most, bytes_of_message)
    if answer[0] < 0:
        if len(answer) != 1:
            raise AssertionError(f"more than a refusal: {answer}")
        return answer[0]
    if answer[0] != len(answer) - 1:
        raise AssertionError(f"{answer[0]} bytes told, {len(answer) - 1} given")
    return bytes(answer[1:]).decode("ascii")


def lines(bytes_of_message):
    """The lines of the entries, without the message's first."""
    told = tell(bytes_of_message)
    if told == -1:
        return -1
    if not told.endswith("\n"):
        raise AssertionError(f"no line feed at the end: {told!r}")
    return told[:-1].split("\n")[1:]


def row(numbers):
    """A row of a call, with how many numbers it has before it; a text stands for its bytes."""
    if isinstance(numbers, str):
        numbers = numbers.encode("latin-1")
    return [len(numbers)] + list(numbers)


def begin(number=0, flags=0):
    return [1, number, flags]


def ask(owner, kind=1, cls=1):
    return [2, kind, cls] + row(owner)


def add(owner, kind=10, data=(), section=1, cls=1, ttl=0):
    return [3, section, kind, cls, ttl] + row(owner) + row(data)


def give(most=MOST):
    return [4, most]


def answered(*calls):
    """What is answered to each of the calls, as a list of its own."""
    told = answers([number for call in calls for number in call])
    out = []
    at = 0
    while at < len(told):
        behind = at + 1 + told[at]
        if told[at] < 1 or behind > len(told):
            raise AssertionError(f"{told[at]} numbers are told at {at} of {len(told)}")
        out.append(told[at + 1:behind])
        at = behind
    if len(out) != len(calls):
        raise AssertionError(f"{len(out)} answers to {len(calls)} calls")
    return out


def tried(*calls):
    """What the last of the calls answers, made behind a begin."""
    return answered(begin(), *calls)[-1]


def written(*calls):
    """The bytes of the message behind these calls, none of which may be refused."""
    out = answered(*calls, give())
    if out[:-1] != [[0]] * len(calls):
        raise AssertionError(f"refused: {out[:-1]}")
    if out[-1][0] != len(out[-1]) - 1:
        raise AssertionError(f"{out[-1][0]} bytes told, {len(out[-1]) - 1} given")
    return out[-1][1:]


def put(*entries):
    """The bytes of a message with these entries."""
    return written(begin(), *entries)
