"""Reads a name from its text, or finds that the text is no name's."""

from postnames.reading import LONGEST_LABEL, LONGEST_NAME
from postnames.telling import BACKSLASH, DOT, is_plain_in_name

FIRST_DIGIT = 48
LAST_DIGIT = 57
ESCAPE_SIZE = 4
LARGEST_BYTE = 255


class NotName(ValueError):
    """The bytes that are read are not a name's text."""


def read_name(told):
    """The labels of the name that these bytes tell."""
    if told == [DOT]:
        return []
    labels = [read_label(piece) for piece in cut_at_dots(told)]
    if sum([len(label) + 1 for label in labels]) + 1 > LONGEST_NAME:
        raise NotName("a name is too long")
    return labels


def cut_at_dots(told):
    """The pieces between the dots; a dot that belongs to a label is told by digits, so none is cut."""
    pieces = [[]]
    for byte in told:
        if byte == DOT:
            pieces.append([])
        else:
            pieces[-1].append(byte)
    return pieces


def read_label(piece):
    label = []
    at = 0
    while at < len(piece):
        byte = piece[at]
        if byte == BACKSLASH:
            label.append(read_escape(piece[at + 1:at + ESCAPE_SIZE]))
            at += ESCAPE_SIZE
        elif is_plain_in_name(byte):
            label.append(byte)
            at += 1
        else:
            raise NotName("a byte does not stand for itself")
    if len(label) < 1 or len(label) > LONGEST_LABEL:
        raise NotName("a label is empty or too long")
    return label


def read_escape(digits):
    """The byte that the digits behind a backslash stand for."""
    if len(digits) < ESCAPE_SIZE - 1:
        raise NotName("there are too few digits")
    byte = 0
    for digit in digits:
        if digit < FIRST_DIGIT or digit > LAST_DIGIT:
            raise NotName("there is something else than digits")
        byte = byte * 10 + digit - FIRST_DIGIT
    if byte > LARGEST_BYTE:
        raise NotName("the digits stand for no byte")
    return byte
