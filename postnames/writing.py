"""Puts a message together, with its names shortened."""

from postnames.kinds import KIND_SRV, QUESTIONS, SECTION_NAMES
from postnames.reading import FIRST_POINTER, MOST_BYTES

HEADER_SIZE = 12


class OutOfOrder(ValueError):
    """The entry before is in a later section."""


class TooLong(ValueError):
    """There would be more bytes than there may be."""


class Piece:
    """The bytes that an entry adds to a message, and the places among them to point to.

    They are kept apart from the message, so that it stays as it is if they are too many.
    """

    def __init__(self, start, known):
        self.start = start
        self.known = known
        self.places = {}
        self.written = []

    def put_number(self, number, size):
        self.written.extend(bytes_of(number, size))

    def put_entry(self, entry):
        self.put_name(entry.name)
        self.put_number(entry.kind, 2)
        self.put_number(entry.cls, 2)
        if entry.data is not None:
            self.put_number(entry.ttl, 4)
            self.put_sized_data(entry.kind, entry.data)

    def put_sized_data(self, kind, data):
        """How many bytes the data has is known only when its names are shortened."""
        before = len(self.written)
        self.put_number(0, 2)
        self.put_data(kind, data)
        size = len(self.written) - before - 2
        self.written[before] = size // 256
        self.written[before + 1] = size % 256

    def put_data(self, kind, data):
        self.written.extend(data.front)
        for labels in data.names:
            if kind == KIND_SRV:
                self.written.extend(whole_name(labels))
            else:
                self.put_name(labels)
        self.written.extend(data.back)

    def put_name(self, labels):
        whole = whole_name(labels)
        at = 0
        while whole[at] != 0:
            left = tuple(whole[at:])
            place = self.place_of(left)
            if place is not None:
                self.put_number(FIRST_POINTER * 256 + place, 2)
                return
            self.places[left] = self.start + len(self.written)
            behind = at + 1 + whole[at]
            self.written.extend(whole[at:behind])
            at = behind
        self.written.append(0)

    def place_of(self, left):
        """The first place where these bytes, what is left of a name, have stood; or None."""
        if left in self.known:
            return self.known[left]
        return self.places.get(left)


class Draft:
    """A message that is put together: its number, its flags, and its entries as bytes."""

    def __init__(self):
        self.begin_anew(0, 0)

    def begin_anew(self, number, flags):
        self.number = number
        self.flags = flags
        self.counts = [0 for section in SECTION_NAMES]
        self.section = QUESTIONS
        self.body = []
        self.places = {}

    def add_entry(self, entry):
        if entry.section < self.section:
            raise OutOfOrder("the entry before is in a later section")
        start = HEADER_SIZE + len(self.body)
        piece = Piece(start, self.places)
        piece.put_entry(entry)
        if start + len(piece.written) > MOST_BYTES:
            raise TooLong("the message has no room for the entry")
        self.counts[entry.section] += 1
        self.section = entry.section
        self.body.extend(piece.written)
        self.places.update(piece.places)

    def whole_within(self, most):
        """The message's bytes, if they are not more than most."""
        if HEADER_SIZE + len(self.body) > most:
            raise TooLong("the message has more bytes")
        whole = []
        for number in [self.number, self.flags] + self.counts:
            whole.extend(bytes_of(number, 2))
        return whole + self.body


def bytes_of(number, size):
    """So many bytes that make the number, the highest first."""
    lowest_first = []
    left = number
    for turn in range(size):
        lowest_first.append(left % 256)
        left = left // 256
    return list(reversed(lowest_first))


def whole_name(labels):
    """The bytes of the name without a pointer."""
    whole = []
    for label in labels:
        whole.append(len(label))
        whole.extend(label)
    whole.append(0)
    return whole
