"""Points 3 and 5: which bytes are a name, and its text."""

import string
import unittest

from building import FIRST_DATA, HEADER, behind_bytes, labels, lines, message, name, pointer, question, record, tell

PLAIN = string.ascii_letters + string.digits + "-_"


def asked(owner):
    """The name that is told of a question, or the refusal."""
    told = lines(message(questions=[question(list(owner))]))
    return told if told == -1 else told[0].split(" ")[1]


def owner_behind(before, owner):
    """The name that is told of a record behind the bytes, or the refusal."""
    told = lines(behind_bytes(before, owner))
    return told if told == -1 else told[1].split(" ")[1]


class Labels(unittest.TestCase):

    def test_root(self):
        self.assertEqual(asked([0]), ".")

    def test_dots_between(self):
        self.assertEqual(asked(name("a")), "a")
        self.assertEqual(asked(name("a", "bc", "def")), "a.bc.def")

    def test_every_byte(self):
        for byte in range(256):
            sign = chr(byte) if chr(byte) in PLAIN else f"\\{byte:03}"
            self.assertEqual(asked(name([byte])), sign)
            self.assertEqual(asked(name([byte, byte], [byte])), f"{sign}{sign}.{sign}")

    def test_letters_keep_their_case(self):
        self.assertEqual(asked(name("WwW", "eXample")), "WwW.eXample")

    def test_dot_in_a_label(self):
        self.assertEqual(asked(name("a.b", "c")), "a\\046b.c")

    def test_longest_label(self):
        for size in (1, 2, 62, 63):
            self.assertEqual(asked(name("x" * size)), "x" * size)

    def test_other_first_bytes(self):
        for first in range(64, 192):
            filled = [first] + [97] * first + [0]
            self.assertEqual(asked(filled), -1, first)
            self.assertEqual(asked(labels("a") + filled), -1, first)
            self.assertEqual(owner_behind(filled, pointer(FIRST_DATA)), -1, first)

    def test_label_cut_by_the_end(self):
        whole = message(questions=[question(name("abc"))])
        for size in range(HEADER, len(whole)):
            self.assertEqual(tell(whole[:size]), -1)
        self.assertEqual(tell(whole[:HEADER] + [4, 97, 98, 99]), -1)

    def test_name_without_an_end(self):
        self.assertEqual(tell(message(questions=[[]])), -1)
        self.assertEqual(tell(message(questions=[labels("abc")])), -1)


class Lengths(unittest.TestCase):

    def test_255_and_256_in_long_labels(self):
        fitting = ["a" * 63, "b" * 63, "c" * 63, "d" * 61]
        self.assertEqual(len(name(*fitting)), 255)
        self.assertEqual(asked(name(*fitting)), ".".join(fitting))
        self.assertEqual(asked(name("a" * 63, "b" * 63, "c" * 63, "d" * 62)), -1)
        self.assertEqual(asked(name("a" * 63, "b" * 63, "c" * 63, "d" * 63)), -1)

    def test_255_and_256_in_short_labels(self):
        self.assertEqual(asked(name(*["x"] * 127)), ".".join(["x"] * 127))
        self.assertEqual(asked(name(*["x"] * 126, "yy")), -1)
        self.assertEqual(asked(name(*["x"] * 128)), -1)

    def test_255_and_256_through_a_pointer(self):
        rest = ["b" * 63, "c" * 63, "d" * 61]
        before = name(*rest)
        fitting = labels("a" * 63) + pointer(FIRST_DATA)
        self.assertEqual(owner_behind(before, fitting), ".".join(["a" * 63] + rest))
        longer = labels("a" * 63) + pointer(FIRST_DATA)
        self.assertEqual(owner_behind(name("b" * 63, "c" * 63, "d" * 62), longer), -1)
        self.assertEqual(owner_behind(before, labels("z", "a" * 61) + pointer(FIRST_DATA)),
                         ".".join(["z", "a" * 61] + rest))
        self.assertEqual(owner_behind(before, labels("z", "a" * 62) + pointer(FIRST_DATA)), -1)

    def test_pointers_do_not_count(self):
        before = name("b" * 63, "c" * 63, "d" * 63)
        first = FIRST_DATA + len(before)
        before += pointer(FIRST_DATA) + pointer(first) + pointer(first + 2)
        told = owner_behind(before, labels("a" * 61) + pointer(first + 4))
        self.assertEqual(told, ".".join(["a" * 61, "b" * 63, "c" * 63, "d" * 63]))

    def test_too_long_in_data(self):
        long_name = name("a" * 63, "b" * 63, "c" * 63, "d" * 62)
        for kind in (2, 5, 12):
            self.assertEqual(lines(message(answers=[record([0], kind, long_name)])), -1)


class Pointers(unittest.TestCase):

    def test_right_at_the_beginning(self):
        self.assertEqual(owner_behind(name("a", "b"), pointer(FIRST_DATA)), "a.b")
        self.assertEqual(owner_behind(name("a", "b"), pointer(FIRST_DATA + 2)), "b")
        self.assertEqual(owner_behind(name("a", "b"), pointer(FIRST_DATA + 4)), ".")

    def test_behind_labels(self):
        self.assertEqual(owner_behind(name("a", "b"), labels("c", "d") + pointer(FIRST_DATA)), "c.d.a.b")

    def test_entry_goes_on_behind_the_pointer(self):
        told = lines(message(questions=[question(name("a"), 2, 3), question(pointer(12), 5, 4),
                                        question(labels("b") + pointer(12), 6, 1)]))
        self.assertEqual(told, ["Q a CH NS", "Q a HS CNAME", "Q b.a IN SOA"])

    def test_into_the_header(self):
        # The message's number is a label, the higher byte of the flags the root.
        told = lines(message(questions=[question(pointer(0))], number=256 + 97))
        self.assertEqual(told, ["Q a IN A"])
        for place in (2, 3, 4, 6, 7, 8, 9, 10, 11):
            self.assertEqual(lines(message(questions=[question(pointer(place))])), ["Q . IN A"], place)

    def test_to_labels_that_go_on_over_the_pointer(self):
        # The count of the last section, 2, is a label's length there: the pointer itself is that label.
        more = [record([0], 10, [])] * 2
        told = lines(message(questions=[question(pointer(11))], more=more))
        self.assertEqual(told[0], "Q \\192\\011 IN A")

    def test_places_around_the_beginning_of_the_name(self):
        start = FIRST_DATA + 1
        self.assertEqual(owner_behind([0], pointer(start - 1)), ".")
        self.assertEqual(owner_behind([0], labels([0]) + pointer(start - 1)), "\\000")
        for owner in ([], labels([0]), labels([0], [0])):
            for place in range(start, start + len(owner) + 14):
                self.assertEqual(owner_behind([0], owner + pointer(place)), -1, (owner, place))

    def test_places_around_where_a_pointer_led(self):
        led = FIRST_DATA + 1
        for owner in (pointer(led), labels("b") + pointer(led)):
            ahead = "" if owner == pointer(led) else "b."
            self.assertEqual(owner_behind([0] + labels([0]) + pointer(led - 1), owner), f"{ahead}\\000")
            for place in range(led, led + 6):
                before = [0] + labels([0]) + pointer(place) + [0, 0]
                self.assertEqual(owner_behind(before, owner), -1, place)

    def test_to_itself(self):
        self.assertEqual(asked(pointer(12)), -1)
        self.assertEqual(asked(labels("a") + pointer(12)), -1)
        self.assertEqual(asked(labels("a") + pointer(14)), -1)

    def test_two_that_lead_to_each_other(self):
        before = pointer(FIRST_DATA + 2) + pointer(FIRST_DATA)
        self.assertEqual(owner_behind(before, pointer(FIRST_DATA)), -1)
        self.assertEqual(owner_behind(before, pointer(FIRST_DATA + 2)), -1)

    def test_behind_the_message(self):
        for place in (100, 255, 256, 4095, 4096, 8192, 16383):
            self.assertEqual(asked(pointer(place)), -1, place)

    def test_higher_bits_of_the_place(self):
        # Places behind 255, 256 and so on: the first byte counts 256 times.
        before = [0] * 3000 + name("far")
        self.assertEqual(owner_behind(before, pointer(FIRST_DATA + 3000)), "far")
        self.assertEqual(owner_behind(before, pointer(FIRST_DATA + 2999)), ".")

    def test_following_one_another(self):
        before = name("a") + labels("b") + pointer(FIRST_DATA) + labels("c") + pointer(FIRST_DATA + 3)
        self.assertEqual(owner_behind(before, labels("d") + pointer(FIRST_DATA + 7)), "d.c.b.a")
        self.assertEqual(owner_behind(before, pointer(FIRST_DATA + 9)), "b.a")

    def test_two_thousand_following_one_another(self):
        before = name("z")
        last = FIRST_DATA
        for turn in range(2000):
            following = FIRST_DATA + len(before)
            before += pointer(last)
            last = following
        self.assertEqual(owner_behind(before, pointer(last)), "z")
        self.assertEqual(owner_behind(before, labels("y") + pointer(last)), "y.z")
        broken = pointer(FIRST_DATA) + before[2:]
        self.assertEqual(owner_behind([64] + before[1:], pointer(last)), -1)
        self.assertEqual(owner_behind(broken, pointer(last)), -1)

    def test_many_names_with_long_chains(self):
        before = [0]
        last = FIRST_DATA
        for turn in range(1000):
            following = FIRST_DATA + len(before)
            before += pointer(last)
            last = following
        answers = [record([0], 10, before)] + [record(pointer(last), 10, [])] * 150
        told = lines(message(answers=answers))
        self.assertEqual(told[1:], ["AN . 0 IN TYPE10 \\# 0"] * 150)

    def test_cut_short_by_the_end(self):
        head = message(questions=[[]])
        self.assertEqual(tell(head + [192]), -1)
        self.assertEqual(tell(head + labels("a") + [192]), -1)
        self.assertEqual(tell(head + pointer(0)), -1)


if __name__ == "__main__":
    unittest.main()
