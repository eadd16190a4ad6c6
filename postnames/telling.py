"""Tells a message as text, byte by byte."""

from postnames.kinds import CLASS_NAMES, KIND_A, KIND_AAAA, KIND_NAMES, KIND_TXT, LAYOUTS, SECTION_NAMES
from postnames.reading import number_of, read_strings

LINE_FEED = 10
SPACE = 32
QUOTE = 34
HYPHEN = 45
DOT = 46
COLON = 58
BACKSLASH = 92
UNDERSCORE = 95
LAST_PRINTED = 126

HEX_DIGITS = "0123456789abcdef"


def signs(words):
    """The bytes of a text."""
    return [ord(sign) for sign in words]


def joined(pieces, between):
    """The pieces one behind another, with one byte between each two."""
    told = []
    for index, piece in enumerate(pieces):
        if index > 0:
            told.append(between)
        told.extend(piece)
    return told


def cut(data, size):
    """The data in pieces of so many bytes."""
    return [data[at:at + size] for at in range(0, len(data), size)]


def decimal(number):
    return signs(str(number))


def decimals(data, size):
    """The numbers of so many bytes each that the data is made of."""
    return [decimal(number_of(piece)) for piece in cut(data, size)]


def hexadecimal(data):
    told = []
    for byte in data:
        told.append(ord(HEX_DIGITS[byte // 16]))
        told.append(ord(HEX_DIGITS[byte % 16]))
    return told


def escaped(byte):
    return [BACKSLASH] + signs(str(byte).zfill(3))


def is_plain_in_name(byte):
    if 48 <= byte <= 57 or 65 <= byte <= 90 or 97 <= byte <= 122:
        return True
    return byte == HYPHEN or byte == UNDERSCORE


def is_plain_in_string(byte):
    return SPACE <= byte <= LAST_PRINTED and byte != QUOTE and byte != BACKSLASH


def tell_label(label):
    told = []
    for byte in label:
        told.extend([byte] if is_plain_in_name(byte) else escaped(byte))
    return told


def tell_name(labels):
    if len(labels) == 0:
        return [DOT]
    return joined([tell_label(label) for label in labels], DOT)


def tell_string(string):
    told = [QUOTE]
    for byte in string:
        told.extend([byte] if is_plain_in_string(byte) else escaped(byte))
    told.append(QUOTE)
    return told


def tell_strings(data):
    return joined([tell_string(string) for string in read_strings(data)], SPACE)


def tell_any_bytes(data):
    words = [signs("\\#"), decimal(len(data))]
    if len(data) > 0:
        words.append(hexadecimal(data))
    return joined(words, SPACE)


def tell_data(kind, data):
    if kind == KIND_A:
        return joined(decimals(data.front, 1), DOT)
    if kind == KIND_AAAA:
        return joined([hexadecimal(piece) for piece in cut(data.front, 2)], COLON)
    if kind == KIND_TXT:
        return tell_strings(data.front)
    if kind in LAYOUTS:
        names = [tell_name(labels) for labels in data.names]
        return joined(decimals(data.front, 2) + names + decimals(data.back, 4), SPACE)
    return tell_any_bytes(data.front)


def tell_class(cls):
    if cls in CLASS_NAMES:
        return signs(CLASS_NAMES[cls])
    return signs(f"CLASS{cls}")


def tell_kind(kind):
    if kind in KIND_NAMES:
        return signs(KIND_NAMES[kind])
    return signs(f"TYPE{kind}")


def tell_entry(entry):
    words = [signs(SECTION_NAMES[entry.section]), tell_name(entry.name)]
    if entry.ttl is not None:
        words.append(decimal(entry.ttl))
    words.append(tell_class(entry.cls))
    words.append(tell_kind(entry.kind))
    if entry.data is not None:
        words.append(tell_data(entry.kind, entry.data))
    return joined(words, SPACE)


def tell_head(message):
    flags = hexadecimal([message.flags // 256, message.flags % 256])
    return joined([signs("ID"), decimal(message.number), signs("FLAGS"), flags], SPACE)


def tell_message(message):
    """The bytes of the message's text, each line with a line feed behind it."""
    told = tell_head(message)
    told.append(LINE_FEED)
    for entry in message.entries:
        told.extend(tell_entry(entry))
        told.append(LINE_FEED)
    return told
