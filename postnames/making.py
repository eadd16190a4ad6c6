"""Makes questions and records of what is handed in, or finds that it makes none."""

from postnames.kinds import ANSWERS, MORE, QUESTIONS
from postnames.naming import read_name
from postnames.reading import Entry, Reader, read_data

LARGEST_SHORT = 65535
LARGEST_LONG = 4294967295
MOST_NAME_BYTES = 1024
MOST_DATA_BYTES = 4096


class OutOfRange(ValueError):
    """A number is smaller or larger than it may be."""


def checked(number, least, most):
    """The number itself, if it is one of those from least to most."""
    if number < least or number > most:
        raise OutOfRange("a number is out of range")
    return number


def checked_short(number):
    return checked(number, 0, LARGEST_SHORT)


def make_question(kind, cls, name):
    return Entry(QUESTIONS, make_name(name), checked_short(kind), checked_short(cls), None, None)


def make_record(section, kind, cls, ttl, name, data):
    checked(section, ANSWERS, MORE)
    checked(ttl, 0, LARGEST_LONG)
    labels = make_name(name)
    return Entry(section, labels, checked_short(kind), checked_short(cls), ttl, make_data(kind, data))


def make_name(name):
    checked(len(name), 0, MOST_NAME_BYTES)
    return read_name(name)


def make_data(kind, data):
    """The data with its names whole: pointers in them lead to places in the data alone."""
    size = checked(len(data), 0, MOST_DATA_BYTES)
    return read_data(Reader(data, 0, size), kind)
