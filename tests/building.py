"""Puts messages together for the tests, and asks the program about them."""

from postnames.desk import text

HEADER = 12
MOST = 2147483647
# Where the data of a message's first entry lies, if that is a record of the root.
FIRST_DATA = HEADER + 1 + 10


def two(number):
    return list(number.to_bytes(2, "big"))


def four(number):
    return list(number.to_bytes(4, "big"))


def pointer(place):
    return two(49152 + place)


def labels(*parts):
    """Labels without an end; a part is a text or a list of bytes."""
    out = []
    for part in parts:
        part = list(part.encode("ascii")) if isinstance(part, str) else list(part)
        out += [len(part)] + part
    return out


def name(*parts):
    return labels(*parts) + [0]


def question(owner, kind=1, cls=1):
    return owner + two(kind) + two(cls)


def record(owner, kind, data, cls=1, ttl=0):
    return owner + two(kind) + two(cls) + four(ttl) + two(len(data)) + data


def message(questions=(), answers=(), authorities=(), more=(), number=0, flags=0):
    sections = (questions, answers, authorities, more)
    out = two(number) + two(flags)
    for section in sections:
        out += two(len(section))
    for section in sections:
        for entry in section:
            out += entry
    return out


def behind_bytes(before, owner, kind=10, data=()):
    """A message with these bytes from FIRST_DATA on and a record behind them.

    The record's own bytes begin at FIRST_DATA and as many places on as there are bytes.
    """
    return message(answers=[record([0], 10, list(before)), record(list(owner), kind, list(data))])


def tell(bytes_of_message, most=MOST):
    """The text as a text, or the refusal as a number; the count must be right."""
    answer = text(most, bytes_of_message)
    if answer[0] < 0:
        if len(answer) != 1:
            raise AssertionError(f"more than a refusal: {answer}")
        return answer[0]
    if answer[0] != len(answer) - 1:
        raise AssertionError(f"{answer[0]} bytes told, {len(answer) - 1} given")
    return bytes(answer[1:]).decode("ascii")


def lines(bytes_of_message):
    """The lines of the entries, without the message's first."""
    told = tell(bytes_of_message)
    if told == -1:
        return -1
    if not told.endswith("\n"):
        raise AssertionError(f"no line feed at the end: {told!r}")
    return told[:-1].split("\n")[1:]
