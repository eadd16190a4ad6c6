"""Point 10: question and record, what they add and what they refuse."""

import unittest

from building import (add, answered, ask, begin, four, give, labels, lines, message, name, pointer, put, question,
                      record, tried, two)

SHORT_EDGES = (0, 1, 255, 256, 65534, 65535)
NOT_SHORT = (-1, 65536, -2, 65537, -65535, 131072, 2147483647, -2147483648)
LONG_EDGES = (0, 1, 255, 256, 65535, 65536, 16777216, 2147483647, 2147483648, 4294967294, 4294967295)
NOT_LONG = (-1, 4294967296, -2, 4294967297, 8589934592, -4294967295, -4294967296, -2147483648,
            9223372036854775807, -9223372036854775808)
NAME_KINDS = (2, 5, 12)
# Data of each kind, with names that have nothing in common.
FITTING = (
    (1, [10, 0, 0, 1]),
    (28, list(range(16))),
    (2, name("ns", "x")),
    (5, name("c", "x")),
    (12, name("p", "x")),
    (15, [0, 10] + name("mx", "x")),
    (33, [0, 1, 0, 2, 0, 3] + name("s", "x")),
    (6, name("m", "x") + name("r", "y") + four(1) + four(2) + four(3) + four(4) + four(5)),
)


class Refusing(unittest.TestCase):

    def refuse(self, entry, number=-1):
        """The entry is refused on an empty message and on one with entries; both stay as they are."""
        self.assertEqual(answered(begin(3, 4), entry, give()), [[0], [number], [12, 0, 3, 0, 4] + [0] * 8], entry)
        before = [begin(3, 4), ask("q.x"), add("a.x", 2, name("ns", "x"))]
        after = [add("ns.x"), add("b.q.x", section=3), give()]
        without = answered(*before, *after)
        self.assertEqual(answered(*before, entry, *after), without[:3] + [[number]] + without[3:], entry)


class Questions(Refusing):

    def test_laid_out(self):
        self.assertEqual(put(ask("www.x", 15, 3)), message(questions=[name("www", "x") + [0, 15, 0, 3]]))

    def test_answers_0(self):
        self.assertEqual(answered(begin(), ask("a"), ask("b")), [[0], [0], [0]])

    def test_counted(self):
        for count in range(5):
            whole = put(*[ask(".")] * count)
            self.assertEqual(whole, message(questions=[question([0])] * count))

    def test_kind_and_class(self):
        for number in SHORT_EDGES:
            self.assertEqual(put(ask(".", number, 1)), message(questions=[[0] + two(number) + [0, 1]]))
            self.assertEqual(put(ask(".", 1, number)), message(questions=[[0, 0, 1] + two(number)]))
        for wrong in NOT_SHORT:
            self.refuse(ask("a", wrong, 1))
            self.refuse(ask("a", 1, wrong))
            self.refuse(ask("a", wrong, wrong))

    def test_no_data_is_asked_for(self):
        for kind in (1, 2, 5, 6, 12, 15, 16, 28, 33):
            self.assertEqual(put(ask("a", kind)), message(questions=[name("a") + two(kind) + [0, 1]]))

    def test_wrong_names(self):
        for wrong in ("", "a.", ".a", "a..b", "\\", "\\25", "\\256", "a b", "x" * 64, ".".join(["x"] * 128)):
            self.refuse(ask(wrong))
            self.refuse(add(wrong))


class Records(Refusing):

    def test_laid_out(self):
        whole = put(add("www.x", 1, [10, 0, 0, 1], section=1, cls=3, ttl=16909060))
        self.assertEqual(whole, message(answers=[name("www", "x") + [0, 1, 0, 3, 1, 2, 3, 4, 0, 4, 10, 0, 0, 1]]))

    def test_answers_0(self):
        self.assertEqual(answered(begin(), add("a"), add("b", section=2), add("c", section=3)), [[0]] * 4)

    def test_kind_and_class(self):
        for number in SHORT_EDGES:
            expected = [] if number != 1 else [1, 2, 3, 4]
            self.assertEqual(put(add(".", number, expected)), message(answers=[record([0], number, expected)]))
            self.assertEqual(put(add(".", 10, [], cls=number)), message(answers=[record([0], 10, [], cls=number)]))
        for wrong in NOT_SHORT:
            self.refuse(add("a", wrong))
            self.refuse(add("a", wrong, [1, 2, 3, 4]))
            self.refuse(add("a", cls=wrong))

    def test_sections(self):
        for section in (1, 2, 3):
            whole = put(add(".", section=section))
            self.assertEqual(whole[4:12], two(0) * section + two(1) + two(0) * (3 - section))
            self.assertEqual(whole[12:], record([0], 10, []))
        for wrong in (0, 4, -1, 5, 255, 256, 65536, 65537, 2147483647, -2147483648):
            self.refuse(add("a", section=wrong))

    def test_time_to_live(self):
        for ttl in LONG_EDGES:
            self.assertEqual(put(add(".", ttl=ttl)), message(answers=[record([0], 10, [], ttl=ttl)]))
        for wrong in NOT_LONG:
            self.refuse(add("a", ttl=wrong))


class Order(unittest.TestCase):

    def entry(self, section):
        return ask(".") if section == 0 else add(".", section=section)

    def test_each_section_behind_each(self):
        for before in range(4):
            for section in range(4):
                expected = [-1] if section < before else [0]
                self.assertEqual(tried(self.entry(before), self.entry(section)), expected, (before, section))

    def test_only_the_entry_before_counts(self):
        out = answered(begin(), ask("."), add("."), add(".", section=3), add(".", section=2), add("."), ask("."),
                       add(".", section=3))
        self.assertEqual(out, [[0], [0], [0], [0], [-1], [-1], [-1], [0]])

    def test_refused_entry_is_no_entry_before(self):
        later = add(".", 1, [1, 2, 3], section=3)
        out = answered(begin(), ask("."), later, ask("."), add(".", section=2), later, add(".", section=1))
        self.assertEqual(out, [[0], [0], [-1], [0], [0], [-1], [-1]])
        too_long = add(".", 10, [0] * 4096, section=3)
        self.assertEqual(answered(begin(), ask("."), too_long, ask("."), add(".")), [[0], [0], [-2], [0], [0]])

    def test_all_sections(self):
        entries = [ask("a"), ask("b"), add("c"), add("d", section=2), add("e", section=2), add("f", section=2),
                   add("g", section=3), add("h", section=3), add("i", section=3), add("j", section=3)]
        expected = message(questions=[question(name(sign)) for sign in "ab"],
                           answers=[record(name("c"), 10, [])],
                           authorities=[record(name(sign), 10, []) for sign in "def"],
                           more=[record(name(sign), 10, []) for sign in "ghij"])
        self.assertEqual(put(*entries), expected)

    def test_order_with_other_faults(self):
        for wrong in (ask("a", 65536), ask("a."), ask("a")):
            self.assertEqual(tried(add("."), wrong), [-1])


class DataOfKinds(Refusing):

    def test_just_so(self):
        for kind, data in FITTING:
            self.assertEqual(put(add(".", kind, data)), message(answers=[record([0], kind, data)]))

    def test_too_short(self):
        for kind, data in FITTING:
            for size in range(len(data)):
                self.refuse(add("a", kind, data[:size]))

    def test_too_long(self):
        for kind, data in FITTING:
            for more in ([0], [1], [192, 0], [0] * 4, [0] * (4096 - len(data))):
                self.refuse(add("a", kind, data + more))

    def test_empty(self):
        for kind in (1, 2, 5, 6, 12, 15, 16, 28, 33):
            self.refuse(add("a", kind, []))

    def test_root_names(self):
        for kind in NAME_KINDS:
            self.assertEqual(put(add(".", kind, [0])), message(answers=[record([0], kind, [0])]))
        for kind, data in ((15, [1, 2, 0]), (33, [1, 2, 3, 4, 5, 6, 0]), (6, [0, 0] + list(range(20)))):
            self.assertEqual(put(add(".", kind, data)), message(answers=[record([0], kind, data)]))

    def test_lengths_of_names(self):
        fitting = name("a" * 63, "b" * 63, "c" * 63, "d" * 61)
        longer = name("a" * 63, "b" * 63, "c" * 63, "d" * 62)
        for kind in NAME_KINDS:
            self.assertEqual(put(add(".", kind, fitting)), message(answers=[record([0], kind, fitting)]))
            self.refuse(add("a", kind, longer))
            self.refuse(add("a", kind, [64] + [97] * 64 + [0]))
        self.refuse(add("a", 6, [0] + longer + [0] * 20))
        self.refuse(add("a", 6, longer + [0] + [0] * 20))

    def test_strings(self):
        for data in ([0], [0, 0], [1, 34], [0, 2, 0, 255, 0], [255] + [7] * 255, ([255] + [92] * 255) * 2):
            self.assertEqual(put(add(".", 16, data)), message(answers=[record([0], 16, data)]))
        for wrong in ([], [1], [2, 1], [0, 1], [255] + [7] * 254, [255] * 4095, [0] * 4095 + [1]):
            self.refuse(add("a", 16, wrong))

    def test_other_kinds(self):
        for kind in (0, 3, 4, 7, 10, 13, 14, 17, 27, 29, 32, 34, 255, 256, 257, 65535):
            for data in ([], [0], [192, 12], [255] * 300):
                self.assertEqual(put(add(".", kind, data)), message(answers=[record([0], kind, data)]))

    def test_other_kinds_with_4096_bytes(self):
        self.refuse(add("a", 10, [0] * 4096), -2)
        self.refuse(add("a", 10, [0] * 4095), -2)
        self.refuse(add("a", 65535, [255] * 4096), -2)

    def test_more_than_4096_bytes(self):
        self.refuse(add("a", 10, [0] * 4097))

    def test_class_does_not_matter(self):
        for cls in (0, 1, 3, 4, 255, 65535):
            self.refuse(add("a", 1, [1, 2, 3], cls=cls))
            self.assertEqual(tried(add("a", 1, [1, 2, 3, 4], cls=cls)), [0])


class PointersInData(Refusing):

    def data_line(self, kind, data):
        told = lines(put(add(".", kind, data)))
        return told[0].split(" ", 5)[5]

    def test_none_can_lead_back_from_the_beginning(self):
        for kind in NAME_KINDS:
            for place in (0, 1, 2, 12, 16383):
                self.refuse(add("a", kind, pointer(place)))
                self.refuse(add("a", kind, labels("b") + pointer(place)))
                self.refuse(add("a", kind, name("b") + pointer(place)))

    def test_into_the_numbers_before(self):
        self.assertEqual(self.data_line(15, [0, 10] + pointer(0)), "10 .")
        self.assertEqual(self.data_line(15, [7, 0] + pointer(1)), "1792 .")
        self.assertEqual(self.data_line(15, [0, 10] + labels("a", "b") + pointer(0)), "10 a.b")
        self.assertEqual(self.data_line(33, [1, 97, 0, 2, 0, 3] + labels("s") + pointer(0)), "353 2 3 s.a")
        self.assertEqual(self.data_line(33, [1, 97, 1, 98, 1, 0] + pointer(5)), "353 354 256 .")

    def test_over_the_pointer_itself(self):
        # The label that the pointer leads to goes on over the pointer, as far as the data goes.
        self.refuse(add("a", 15, [0, 2] + pointer(1)))
        self.refuse(add("a", 33, [0, 0, 0, 0, 0, 3] + labels("x") + pointer(5)))
        for size in range(3, 23):
            second = "\\000\\192\\001" + "\\000" * (size - 3)
            self.assertEqual(self.data_line(6, name([size]) + pointer(1) + [0] * 20),
                             f"\\{size:03} {second} 0 0 0 0 0")
        self.assertEqual(self.data_line(6, name([2]) + pointer(1) + [0] * 20),
                         "\\002 \\000\\192.\\000 0 0 0 0 0")
        # There the label's one byte and the byte 0 behind it are a pointer to the first name.
        self.assertEqual(self.data_line(6, name([192]) + pointer(1) + [0] * 20), "\\192 \\192 0 0 0 0 0")
        for size in (1, 23, 24, 63, 64, 191):
            self.refuse(add("a", 6, name([size]) + pointer(1) + [0] * 20))

    def test_written_whole(self):
        whole = put(add(".", 15, [0, 10] + labels("a", "b") + pointer(0)))
        self.assertEqual(whole, message(answers=[record([0], 15, [0, 10] + name("a", "b"))]))
        whole = put(add(".", 33, [1, 97, 0, 2, 0, 3] + labels("s") + pointer(0)))
        self.assertEqual(whole, message(answers=[record([0], 33, [1, 97, 0, 2, 0, 3] + name("s", "a"))]))

    def test_second_name_to_the_first(self):
        end = [0] * 20
        first = name("m", "x")
        told = (("m.x", pointer(0)), ("x", pointer(2)), (".", pointer(4)), ("r.m.x", labels("r") + pointer(0)),
                ("r.x", labels("r") + pointer(2)), ("r", labels("r") + pointer(4)))
        for rest, second in told:
            self.assertEqual(self.data_line(6, first + second + end), f"m.x {rest} 0 0 0 0 0")
        for place in (5, 6, 7, 8, 20, 27, 28, 100, 16383):
            self.refuse(add("a", 6, first + pointer(place) + end))
        for place in (1, 3):
            # There stand the letters, 109 and 120, which no label begins with.
            self.refuse(add("a", 6, first + pointer(place) + end))

    def test_first_name_not_forward(self):
        self.refuse(add("a", 6, pointer(2) + name("x") + [0] * 20))
        self.refuse(add("a", 6, pointer(0) + name("x") + [0] * 20))

    def test_nowhere_and_not_further_back(self):
        for kind, before in ((15, [0, 0]), (33, [0] * 6)):
            start = len(before)
            for owner in ([], labels("a"), labels("a", "b")):
                for place in range(start):
                    self.assertEqual(tried(add(".", kind, before + owner + pointer(place))), [0])
                for place in list(range(start, start + 12)) + [255, 256, 4095, 16383]:
                    self.refuse(add("a", kind, before + owner + pointer(place)))

    def test_into_the_message_around_it_leads_nowhere(self):
        # At place 12 of the message stands a name, at place 12 of the data nothing.
        self.assertEqual(tried(ask("x.y"), add("a", 15, [0, 10] + pointer(12))), [-1])
        self.assertEqual(tried(ask("x.y"), add("a", 2, labels("b") + pointer(12))), [-1])

    def test_second_pointer_not_further_back(self):
        # 192 2 stands at 2 and leads to itself.
        self.refuse(add("a", 33, [0, 0, 192, 2, 0, 0] + pointer(2)))
        self.refuse(add("a", 33, [0, 0, 192, 3, 0, 0] + pointer(2)))
        self.assertEqual(tried(add("a", 33, [0, 0, 192, 1, 0, 0] + pointer(2))), [0])

    def test_cut_pointer(self):
        for kind, before in ((2, []), (15, [0, 0]), (33, [0] * 6)):
            self.refuse(add("a", kind, before + [192]))
            self.refuse(add("a", kind, before + labels("b") + [192]))

    def test_longer_than_255_through_a_pointer(self):
        first = name("b" * 63, "c" * 63, "d" * 61)
        self.assertEqual(tried(add(".", 6, first + labels("a" * 63) + pointer(0) + [0] * 20)), [0])
        first = name("b" * 63, "c" * 63, "d" * 62)
        self.refuse(add("a", 6, first + labels("a" * 63) + pointer(0) + [0] * 20))

    def test_data_grows(self):
        # Twice the first name, whole, has more bytes than came, and is shortened again.
        parts = ["b" * 63, "c" * 63, "d" * 61]
        data = name(*parts) + labels("r") + pointer(0) + [0] * 20
        self.assertEqual(put(add(".", 6, data)), message(answers=[
            record([0], 6, name(*parts) + labels("r") + pointer(23) + [0] * 20)]))


class Room(unittest.TestCase):

    def test_4096_and_4097_bytes(self):
        for owner, size in ((".", 4073), ("a", 4071)):
            for more in (0, 1):
                expected = [-2] if more else [0]
                self.assertEqual(tried(add(owner, 10, [5] * (size + more))), expected)
        self.assertEqual(len(put(add(".", 10, [5] * 4073))), 4096)
        self.assertEqual(len(put(add("a", 10, [5] * 4071))), 4096)

    def test_as_it_was_behind_that(self):
        for left in range(16):
            before = [begin(1, 2), ask("a.x"), add(".", 10, [5] * (4096 - 12 - 9 - 11 - left))]
            whole = [4096 - left] + answered(*before, give())[-1][1:]
            self.assertEqual(len(whole), 4097 - left)
            tests = ((add("."), 11), (add("a.x"), 12), (add("x"), 12), (add("y"), 13), (add("b.a.x"), 14),
                     (add(".", 10, [1]), 12), (add(".", 2, [0], section=2), 12))
            for entry, size in tests:
                out = answered(*before, entry, give())
                if size > left:
                    self.assertEqual(out[-2:], [[-2], whole], (left, entry))
                else:
                    self.assertEqual(out[-2], [0], (left, entry))
                    self.assertEqual(out[-1][0], 4096 - left + size)

    def test_questions(self):
        full = add(".", 10, [5] * 4068)
        self.assertEqual(tried(ask("."), full), [0])
        self.assertEqual(tried(ask("."), ask("."), full), [-2])
        long_name = ".".join(["a" * 63, "b" * 63, "c" * 63, "d" * 61])
        many = [ask(f"{turn:02}" + long_name[2:]) for turn in range(99)]
        out = answered(begin(), *many[:40])
        # The first has 259 bytes, each other one 70: its first label is new, and a pointer ends it.
        fitting = 1 + (4096 - 12 - 259) // 70
        self.assertEqual(answered(begin(), *many), [[0]] + [[0]] * fitting + [[-2]] * (99 - fitting))
        self.assertEqual(out, [[0]] * 41)

    def test_places_of_what_is_refused_are_none(self):
        # What did not get room has stood nowhere: the next name is not shortened by it.
        before = [begin(), ask("a")]
        refused = add("b.c", 10, [5] * 4090)
        out = answered(*before, refused, add("d.b.c", 2, name("b", "c")), give())
        self.assertEqual(out[:4], [[0], [0], [-2], [0]])
        expected = message(questions=[question(name("a"))],
                           answers=[record(name("d", "b", "c"), 2, pointer(12 + 7 + 2))])
        self.assertEqual(out[4][1:], expected)

    def test_shortened_is_what_counts(self):
        long_name = ".".join(["a" * 63, "b" * 63, "c" * 63, "d" * 61])
        # 255 bytes once, then two each time.
        entries = [ask(long_name)] + [add(long_name, 10, [5] * 700)] * 5 + [add(long_name, 10, [5] * 253)]
        self.assertEqual(len(put(*entries)), 12 + 259 + 5 * 712 + 265)
        self.assertEqual(len(put(*entries)), 4096)
        self.assertEqual(answered(begin(), *entries, ask("."))[-1], [-1])
        self.assertEqual(answered(begin(), *entries, add("."))[-1], [-2])

    def test_whole_in_srv_is_what_counts(self):
        target = name("t" * 63, "u" * 63, "v" * 63, "w" * 61)
        before = [add(".", 2, target)] + [add(".", 33, [0] * 6 + target)] * 13
        size = 12 + 11 + 255 + 13 * (11 + 6 + 255)
        self.assertEqual(len(put(*before)), size)
        self.assertEqual(tried(*before, add(".", 10, [5] * (4096 - size - 11))), [0])
        self.assertEqual(tried(*before, add(".", 33, [0] * 6 + target)), [0])
        self.assertEqual(tried(*before, *[add(".", 33, [0] * 6 + target)] * 2), [-2])

    def test_data_that_grows_over_the_end(self):
        # The name comes in two bytes and is written whole in three.
        srv = [1, 97, 0, 0, 0, 0] + pointer(0)
        size = 4096 - 12 - 11 - 11 - len(srv)
        self.assertEqual(tried(add(".", 10, [5] * size), add(".", 33, srv)), [-2])
        self.assertEqual(tried(add(".", 10, [5] * (size - 1)), add(".", 33, srv)), [0])


class BothReasons(unittest.TestCase):

    FULL = add(".", 10, [5] * 4073, section=2)

    def test_wrong_in_a_message_that_would_be_too_long(self):
        fine = dict(section=2)
        self.assertEqual(tried(self.FULL, add("a", 1, [1, 2, 3, 4], **fine)), [-2])
        wrong = [add("a", 1, [1, 2, 3], **fine), add("a", 2, pointer(0), **fine), add("a", 16, [], **fine),
                 add("a.", **fine), add("", **fine), add("a", 65536, **fine), add("a", -1, **fine),
                 add("a", cls=65536, **fine), add("a", ttl=-1, **fine), add("a", ttl=4294967296, **fine),
                 add("a", section=4), add("a", section=0), ask("a."), ask("a", 65536), ask("a", 1, -1)]
        for entry in wrong:
            self.assertEqual(tried(self.FULL, entry), [-1], entry)

    def test_entry_before_in_a_later_section(self):
        self.assertEqual(tried(self.FULL, add("a", section=1)), [-1])
        self.assertEqual(tried(self.FULL, ask("a")), [-1])
        self.assertEqual(tried(self.FULL, add("a", section=3)), [-2])
        self.assertEqual(tried(add(".", section=3), add(".", 10, [0] * 4096, section=1)), [-1])

    def test_long_data_that_is_wrong(self):
        for kind in (1, 2, 5, 6, 12, 15, 28, 33):
            self.assertEqual(tried(add("a", kind, [0] * 4096)), [-1])
        self.assertEqual(tried(add("a", 16, [0] * 4096)), [-2])
        self.assertEqual(tried(add("a", 16, [0] * 4095 + [1])), [-1])


if __name__ == "__main__":
    unittest.main()
