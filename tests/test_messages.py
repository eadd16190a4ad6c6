"""Points 1, 2 and 6: which bytes are a message, and its lines."""

import unittest

from building import FIRST_DATA, labels, lines, message, name, pointer, question, record, tell, two

ORDINARY = message(
    questions=[question(name("www", "example", "com"))],
    answers=[
        record(pointer(12), 5, labels("web") + pointer(16), ttl=300),
        record(labels("web") + pointer(16), 1, [10, 0, 0, 1], ttl=60),
    ],
    authorities=[record(pointer(16), 2, labels("ns1") + pointer(16), ttl=86400)],
    more=[record(labels("ns1") + pointer(16), 28, [32, 1, 13, 184] + [0] * 11 + [1], ttl=3600)],
    number=4660,
    flags=0x8180,
)


class Ordinary(unittest.TestCase):

    def test_all_four_sections(self):
        self.assertEqual(tell(ORDINARY), (
            "ID 4660 FLAGS 8180\n"
            "Q www.example.com IN A\n"
            "AN www.example.com 300 IN CNAME web.example.com\n"
            "AN web.example.com 60 IN A 10.0.0.1\n"
            "NS example.com 86400 IN NS ns1.example.com\n"
            "AR ns1.example.com 3600 IN AAAA 2001:0db8:0000:0000:0000:0000:0000:0001\n"
        ))

    def test_no_entries(self):
        self.assertEqual(tell([0] * 12), "ID 0 FLAGS 0000\n")

    def test_several_questions(self):
        told = lines(message(questions=[question(name("a"), 28), question([0], 2, 3), question(name("b"), 16, 4)]))
        self.assertEqual(told, ["Q a IN AAAA", "Q . CH NS", "Q b HS TXT"])

    def test_each_section_alone(self):
        entry = record(name("x"), 1, [1, 2, 3, 4], ttl=5)
        self.assertEqual(lines(message(answers=[entry])), ["AN x 5 IN A 1.2.3.4"])
        self.assertEqual(lines(message(authorities=[entry])), ["NS x 5 IN A 1.2.3.4"])
        self.assertEqual(lines(message(more=[entry])), ["AR x 5 IN A 1.2.3.4"])

    def test_entries_in_their_order(self):
        told = lines(message(answers=[record(name(mark), 10, []) for mark in "cabba"]))
        self.assertEqual(told, [f"AN {mark} 0 IN TYPE10 \\# 0" for mark in "cabba"])

    def test_question_of_each_kind_has_no_data(self):
        named = {1: "A", 2: "NS", 5: "CNAME", 6: "SOA", 12: "PTR", 15: "MX", 16: "TXT", 28: "AAAA", 33: "SRV"}
        for kind, word in named.items():
            self.assertEqual(lines(message(questions=[question(name("q"), kind)])), [f"Q q IN {word}"])


class NoMessage(unittest.TestCase):

    def test_no_bytes(self):
        self.assertEqual(tell([]), -1)

    def test_fewer_than_twelve(self):
        for size in range(12):
            self.assertEqual(tell([0] * size), -1, size)

    def test_every_cut(self):
        for size in range(len(ORDINARY)):
            self.assertEqual(tell(ORDINARY[:size]), -1, size)

    def test_bytes_behind_the_last_entry(self):
        for byte in (0, 1, 192, 255):
            self.assertEqual(tell([0] * 12 + [byte]), -1, byte)
            self.assertEqual(tell(ORDINARY + [byte]), -1, byte)
        self.assertEqual(tell(ORDINARY + question([0])), -1)

    def test_sections_with_more_entries_than_bytes(self):
        for place in (4, 6, 8, 10):
            for count in (1, 2, 255, 256, 65535):
                head = [0] * 12
                head[place:place + 2] = two(count)
                self.assertEqual(tell(head), -1, (place, count))

    def test_one_entry_more_or_less_than_the_count(self):
        for place in (5, 7, 9, 11):
            for change in (-1, 1):
                changed = list(ORDINARY)
                changed[place] += change
                self.assertEqual(tell(changed), -1, (place, change))

    def test_counts_have_two_bytes(self):
        many = message(questions=[question([0])] * 258)
        self.assertEqual(many[4:6], [1, 2])
        self.assertEqual(lines(many), ["Q . IN A"] * 258)

    def test_data_cut_by_the_end(self):
        whole = message(answers=[record([0], 10, [1, 2, 3])])
        self.assertEqual(lines(whole), ["AN . 0 IN TYPE10 \\# 3 010203"])
        self.assertEqual(tell(whole[:-1]), -1)
        longer = list(whole)
        longer[FIRST_DATA - 2] = 1
        self.assertEqual(tell(longer), -1)


class Numbers(unittest.TestCase):

    def test_number_of_the_message(self):
        for number in (0, 1, 9, 10, 255, 256, 4660, 65535):
            self.assertEqual(tell(message(number=number)), f"ID {number} FLAGS 0000\n")

    def test_flags(self):
        for flags, digits in ((0, "0000"), (1, "0001"), (15, "000f"), (0xab, "00ab"), (0x100, "0100"),
                              (0x8180, "8180"), (0xcdef, "cdef"), (0xa09b, "a09b"), (65535, "ffff")):
            self.assertEqual(tell(message(flags=flags)), f"ID 0 FLAGS {digits}\n")

    def test_classes(self):
        named = {1: "IN", 3: "CH", 4: "HS"}
        for cls in (0, 1, 2, 3, 4, 5, 254, 255, 256, 257, 65535):
            word = named.get(cls, f"CLASS{cls}")
            told = lines(message(questions=[question([0], 1, cls)], more=[record([0], 1, [0] * 4, cls)]))
            self.assertEqual(told, [f"Q . {word} A", f"AR . 0 {word} A 0.0.0.0"])

    def test_kinds_without_a_name(self):
        for kind in (0, 3, 4, 7, 11, 13, 14, 17, 27, 29, 32, 34, 41, 255, 256, 257, 272, 65535):
            told = lines(message(questions=[question([0], kind)], answers=[record([0], kind, [7])]))
            self.assertEqual(told, [f"Q . IN TYPE{kind}", f"AN . 0 IN TYPE{kind} \\# 1 07"])

    def test_time_to_live(self):
        for ttl in (0, 1, 255, 256, 65536, 2147483647, 2147483648, 4294967295):
            told = lines(message(answers=[record([0], 10, [], ttl=ttl)]))
            self.assertEqual(told, [f"AN . {ttl} IN TYPE10 \\# 0"])


if __name__ == "__main__":
    unittest.main()
