"""Points 4 and 7: which bytes are a kind's data, and its text."""

import unittest

from building import four, labels, lines, message, name, pointer, record, two

OWNER = name("o")
# The data of a first answer with this owner begins here, if no question stands before it.
DATA = 12 + len(OWNER) + 10
TWENTY = four(1) + four(2) + four(3) + four(4) + four(5)

FITTING = (
    (1, [10, 0, 0, 1], "A 10.0.0.1"),
    (1, [0, 0, 0, 0], "A 0.0.0.0"),
    (1, [255, 255, 255, 255], "A 255.255.255.255"),
    (28, list(range(16)), "AAAA 0001:0203:0405:0607:0809:0a0b:0c0d:0e0f"),
    (28, [0] * 16, "AAAA 0000:0000:0000:0000:0000:0000:0000:0000"),
    (28, [255] * 16, "AAAA ffff:ffff:ffff:ffff:ffff:ffff:ffff:ffff"),
    (2, name("ns", "x"), "NS ns.x"),
    (2, [0], "NS ."),
    (2, pointer(12), "NS o"),
    (5, name("c"), "CNAME c"),
    (5, labels("c") + pointer(12), "CNAME c.o"),
    (12, name([0, 255], "p"), "PTR \\000\\255.p"),
    (15, two(10) + name("mail"), "MX 10 mail"),
    (15, two(0) + [0], "MX 0 ."),
    (15, two(65535) + labels("m") + pointer(12), "MX 65535 m.o"),
    (33, two(1) + two(2) + two(5060) + name("sip"), "SRV 1 2 5060 sip"),
    (33, [0] * 7, "SRV 0 0 0 ."),
    (33, [255] * 6 + pointer(12), "SRV 65535 65535 65535 o"),
    (6, name("ns") + name("admin", "x") + TWENTY, "SOA ns admin.x 1 2 3 4 5"),
    (6, [0] * 22, "SOA . . 0 0 0 0 0"),
    (6, pointer(12) + pointer(12) + [255] * 20, "SOA o o" + " 4294967295" * 5),
    (6, name("ns") + labels("r") + pointer(DATA) + TWENTY, "SOA ns r.ns 1 2 3 4 5"),
)


def told(kind, data, follower=()):
    """What is told of an answer from its kind on, or the refusal; a second record may follow it."""
    answers = [record(OWNER, kind, list(data), ttl=7)] + list(follower)
    answer = lines(message(answers=answers))
    if answer == -1:
        return -1
    ahead = "AN o 7 IN "
    if not answer[0].startswith(ahead):
        raise AssertionError(answer[0])
    return answer[0][len(ahead):]


class Fitting(unittest.TestCase):

    def test_each_kind(self):
        for kind, data, expected in FITTING:
            self.assertEqual(told(kind, data), expected)

    def test_in_every_section_and_class(self):
        for kind, data, expected in FITTING:
            if any(byte >= 192 for byte in data):
                continue
            for section, word in (("answers", "AN"), ("authorities", "NS"), ("more", "AR")):
                entry = record(name("s"), kind, data, cls=4, ttl=1)
                self.assertEqual(lines(message(**{section: [entry]})), [f"{word} s 1 HS {expected}"])

    def test_with_a_record_behind(self):
        for kind, data, expected in FITTING:
            self.assertEqual(told(kind, data, [record([0], 10, [])]), expected)

    def test_pointers_within_the_data(self):
        self.assertEqual(told(15, two(0) + pointer(DATA)), "MX 0 .")
        self.assertEqual(told(15, [1, 97] + pointer(DATA)), -1)
        self.assertEqual(told(33, [0, 0, 0, 0, 1, 97] + pointer(DATA + 3)), "SRV 0 0 353 .")


class NotFitting(unittest.TestCase):

    def test_too_short(self):
        for kind, data, expected in FITTING:
            for size in range(len(data)):
                self.assertEqual(told(kind, data[:size]), -1, (expected, size))
                self.assertEqual(told(kind, data[:size], [record([0], 10, [0] * 30)]), -1, (expected, size))

    def test_too_long(self):
        for kind, data, expected in FITTING:
            for byte in (0, 1, 255):
                self.assertEqual(told(kind, data + [byte]), -1, (expected, byte))
            self.assertEqual(told(kind, data + data), -1, expected)

    def test_length_that_says_less_or_more_than_there_is(self):
        for kind, data, expected in FITTING:
            whole = message(answers=[record(OWNER, kind, data)])
            for change in (-1, 1):
                changed = list(whole)
                changed[DATA - 1] += change
                self.assertEqual(lines(changed), -1, (expected, change))

    def test_name_goes_behind_the_end(self):
        # What follows would end the name: a root's 0, and the 0 of its kind behind that.
        follower = [record([0], 10, [])]
        for kind, ahead in ((2, []), (5, []), (12, []), (15, [0] * 2), (33, [0] * 6)):
            for begun in ([], [1], [1, 97], [2, 97], labels("ab", "c"), [192], labels("a") + [192]):
                self.assertEqual(told(kind, ahead + begun, follower), -1, (kind, begun))
        for begun in ([], [1], [0], [0, 1], [0, 192], [0, 0] + [0] * 19):
            self.assertEqual(told(6, begun, follower), -1, begun)

    def test_pointer_to_labels_that_go_behind_the_end(self):
        # The data's own length, 2, is a label's there: the pointer is that label, and the name would go on behind.
        follower = [record([0], 10, [])]
        for kind in (2, 5, 12):
            self.assertEqual(told(kind, pointer(DATA - 1), follower), -1)

    def test_pointer_to_a_label_that_goes_up_to_the_end(self):
        # The time to live's last byte is a label's length there, the byte behind that label a root.
        place = DATA - 3
        data = pointer(place) + [0] * 21
        covered = two(23) + data
        for size, fits in ((5, True), (23, True), (24, True), (25, False)):
            answer = lines(message(answers=[record(OWNER, 6, data, ttl=size), record([0], 10, [])]))
            if fits:
                label = "".join(f"\\{byte:03}" for byte in covered[:size])
                self.assertEqual(answer[0], f"AN o {size} IN SOA {label} . 0 0 0 0 0")
            else:
                self.assertEqual(answer, -1)

    def test_pointers_that_do_not_lead_back(self):
        for kind, ahead in ((2, 0), (5, 0), (12, 0), (15, 2), (33, 6)):
            start = DATA + ahead
            for place in (start, start + 1, start + 2, 16383):
                self.assertEqual(told(kind, [0] * ahead + pointer(place), [record([0], 10, [])]), -1)

    def test_wrong_first_bytes(self):
        for first in (64, 127, 128, 191):
            self.assertEqual(told(2, [first] + [97] * first + [0]), -1)
            self.assertEqual(told(6, [0] + [first] + [97] * first + [0] + TWENTY), -1)


class Strings(unittest.TestCase):

    def test_one_and_more(self):
        self.assertEqual(told(16, labels("abc")), 'TXT "abc"')
        self.assertEqual(told(16, labels("a b", "c", "d")), 'TXT "a b" "c" "d"')

    def test_none(self):
        self.assertEqual(told(16, []), -1)
        self.assertEqual(told(16, [], [record([0], 10, [])]), -1)

    def test_empty(self):
        self.assertEqual(told(16, [0]), 'TXT ""')
        self.assertEqual(told(16, [0, 0]), 'TXT "" ""')
        self.assertEqual(told(16, [0, 1, 97, 0]), 'TXT "" "a" ""')

    def test_every_byte(self):
        for byte in range(256):
            plain = 32 <= byte <= 126 and chr(byte) not in '"\\'
            sign = chr(byte) if plain else f"\\{byte:03}"
            self.assertEqual(told(16, [1, byte]), f'TXT "{sign}"')
            self.assertEqual(told(16, [2, byte, byte, 1, byte]), f'TXT "{sign}{sign}" "{sign}"')

    def test_lengths(self):
        for size in (63, 64, 191, 192, 254, 255):
            self.assertEqual(told(16, [size] + [120] * size), 'TXT "' + "x" * size + '"')

    def test_behind_the_end(self):
        follower = [record([0], 10, [])]
        for data in ([1], [2, 97], [255], [255] + [97] * 254, [0, 1], [1, 97, 1], [1, 97, 3, 97, 97]):
            self.assertEqual(told(16, data), -1, data)
            self.assertEqual(told(16, data, follower), -1, data)


class OtherKinds(unittest.TestCase):

    def test_none_and_some(self):
        self.assertEqual(told(10, []), "TYPE10 \\# 0")
        self.assertEqual(told(0, [0]), "TYPE0 \\# 1 00")
        self.assertEqual(told(65535, [1, 35, 69, 171, 205, 239]), "TYPE65535 \\# 6 012345abcdef")

    def test_every_byte(self):
        data = list(range(256))
        self.assertEqual(told(99, data), "TYPE99 \\# 256 " + bytes(data).hex())

    def test_bytes_that_would_be_wrong_elsewhere(self):
        self.assertEqual(told(41, [64, 192, 255]), "TYPE41 \\# 3 40c0ff")

    def test_length_of_two_bytes(self):
        self.assertEqual(told(10, [7] * 3000), "TYPE10 \\# 3000 " + "07" * 3000)


if __name__ == "__main__":
    unittest.main()
