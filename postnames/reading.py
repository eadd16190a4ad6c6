"""Reads bytes as a message of the name system, or finds that they are none."""

from postnames.kinds import KIND_TXT, LAYOUTS, QUESTIONS, SECTION_NAMES

MOST_BYTES = 4096
LONGEST_LABEL = 63
LONGEST_NAME = 255
FIRST_POINTER = 192


class NotMessage(ValueError):
    """The bytes that are read are not a message."""


class Message:
    """A message: its number, its flags and its entries in order."""

    def __init__(self, number, flags, entries):
        self.number = number
        self.flags = flags
        self.entries = entries


class Entry:
    """A question or a record; a question has None for its time to live and its data."""

    def __init__(self, section, name, kind, cls, ttl, data):
        self.section = section
        self.name = name
        self.kind = kind
        self.cls = cls
        self.ttl = ttl
        self.data = data


class Data:
    """A record's data: bytes, the names behind them, the bytes behind these.

    Where no names are asked for, all of the bytes stand in front.
    """

    def __init__(self, front, names, back):
        self.front = front
        self.names = names
        self.back = back


class Reader:
    """Takes one thing after another from a message's bytes, none of it behind the end.

    The end also holds for what pointers lead to: no label of a name in data lies
    behind that data, while any place before it will do.
    """

    def __init__(self, message, at, end):
        self.message = message
        self.at = at
        self.end = end

    def pass_over(self, size):
        """Goes on by so many bytes and gives back the place where they began."""
        began = self.at
        if began + size > self.end:
            raise NotMessage("the bytes end too early")
        self.at = began + size
        return began

    def take_byte(self):
        return self.message[self.pass_over(1)]

    def take_bytes(self, size):
        began = self.pass_over(size)
        return self.message[began:self.at]

    def take_number(self, size):
        return number_of(self.take_bytes(size))

    def take_part(self, size):
        """A reader of the next bytes, so many, alone."""
        began = self.pass_over(size)
        return Reader(self.message, began, self.at)

    def take_name(self):
        """The labels of a name; what is taken next stands behind the name's own bytes."""
        labels = []
        size = 1
        began = self.at
        behind = None
        first = self.take_byte()
        while first != 0:
            if first >= FIRST_POINTER:
                place = (first - FIRST_POINTER) * 256 + self.take_byte()
                if place >= began:
                    raise NotMessage("a pointer does not lead further back")
                if behind is None:
                    behind = self.at
                began = place
                self.at = place
            else:
                labels.append(self.take_label(first))
                size += first + 1
                if size > LONGEST_NAME:
                    raise NotMessage("a name is too long")
            first = self.take_byte()
        if behind is not None:
            self.at = behind
        return labels

    def take_label(self, size):
        if size > LONGEST_LABEL:
            raise NotMessage("a label cannot begin so")
        return self.take_bytes(size)

    def take_string(self):
        return self.take_bytes(self.take_byte())

    def take_rest(self):
        return self.take_bytes(self.end - self.at)

    def check_done(self):
        if self.at != self.end:
            raise NotMessage("bytes are left over")


def number_of(digits):
    """The number that these bytes make, the highest first."""
    number = 0
    for digit in digits:
        number = number * 256 + digit
    return number


def read_message(message):
    """The message that these bytes are."""
    reader = Reader(message, 0, len(message))
    number = reader.take_number(2)
    flags = reader.take_number(2)
    counts = [reader.take_number(2) for section in SECTION_NAMES]
    entries = []
    for section, count in enumerate(counts):
        for turn in range(count):
            entries.append(read_entry(reader, section))
    reader.check_done()
    return Message(number, flags, entries)


def read_entry(reader, section):
    name = reader.take_name()
    kind = reader.take_number(2)
    cls = reader.take_number(2)
    if section == QUESTIONS:
        return Entry(section, name, kind, cls, None, None)
    ttl = reader.take_number(4)
    part = reader.take_part(reader.take_number(2))
    return Entry(section, name, kind, cls, ttl, read_data(part, kind))


def read_data(part, kind):
    """The data of this kind that the part's bytes are, all of them."""
    if kind in LAYOUTS:
        data = read_layout(part, LAYOUTS[kind])
        part.check_done()
        return data
    front = part.take_rest()
    if kind == KIND_TXT:
        read_strings(front)
    return Data(front, [], [])


def read_layout(part, layout):
    front = part.take_bytes(layout[0])
    names = [part.take_name() for turn in range(layout[1])]
    back = part.take_bytes(layout[2])
    return Data(front, names, back)


def read_strings(data):
    """The strings, one or more, that these bytes are, all of them."""
    reader = Reader(data, 0, len(data))
    strings = [reader.take_string()]
    while reader.at < reader.end:
        strings.append(reader.take_string())
    return strings
