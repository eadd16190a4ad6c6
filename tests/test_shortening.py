"""Point 11: what message answers, and how its names are shortened."""

import unittest

from building import (MOST, add, answered, ask, begin, four, give, labels, lines, message, name, pointer, put, question,
                      record, tell, written)

# Where the name of a message's first entry begins.
FIRST = 12
TIMES = four(1) + four(2) + four(3) + four(4) + four(5)


def entries_of(*calls):
    """The bytes of the entries, without the header's."""
    return put(*calls)[12:]


class Answer(unittest.TestCase):

    CALLS = (begin(4660, 33152), ask("www.x"), add("www.x", 1, [10, 0, 0, 1], ttl=300))
    WHOLE = message(number=4660, flags=33152, questions=[question(name("www", "x"))],
                    answers=[record(pointer(12), 1, [10, 0, 0, 1], ttl=300)])

    def test_count_and_bytes(self):
        self.assertEqual(answered(*self.CALLS, give())[-1], [len(self.WHOLE)] + self.WHOLE)

    def test_no_entries(self):
        self.assertEqual(answered(begin(1, 2), give())[-1], [12, 0, 1, 0, 2, 0, 0, 0, 0, 0, 0, 0, 0])

    def test_most(self):
        for calls in ((begin(),), self.CALLS, (begin(), add(".", 10, [1] * 4073))):
            whole = written(*calls)
            size = len(whole)
            for most in (size, size + 1, 65536, MOST):
                self.assertEqual(answered(*calls, give(most))[-1], [size] + whole, most)
            for most in (size - 1, size - 2, 11, 1, 0, -1, -2, -size, -2147483648):
                self.assertEqual(answered(*calls, give(most))[-1], [-2], most)

    def test_leaves_it_as_it_is(self):
        whole = [len(self.WHOLE)] + self.WHOLE
        self.assertEqual(answered(*self.CALLS, give(), give(0), give(), give())[3:], [whole, [-2], whole, whole])
        more = answered(*self.CALLS, give(), give(5), add("x.www.x"), give())[-1]
        self.assertEqual(more, answered(*self.CALLS, add("x.www.x"), give())[-1])
        self.assertEqual(more[0], len(self.WHOLE) + 14)

    def test_between_the_calls(self):
        out = answered(begin(), give(), ask("a"), give(), ask("b.a"), give())
        self.assertEqual([answer[0] for answer in out], [0, 12, 0, 19, 0, 27])


class Pointing(unittest.TestCase):

    def test_the_same_name(self):
        self.assertEqual(entries_of(ask("a.b"), ask("a.b"), ask("a.b")),
                         question(name("a", "b")) + question(pointer(FIRST)) * 2)

    def test_names_that_end_alike(self):
        out = entries_of(ask("a.b.c"), ask("d.b.c"), ask("e.c"), ask("c"), ask("b.c"))
        self.assertEqual(out, question(name("a", "b", "c")) + question(labels("d") + pointer(FIRST + 2))
                         + question(labels("e") + pointer(FIRST + 4)) + question(pointer(FIRST + 4))
                         + question(pointer(FIRST + 2)))

    def test_a_name_that_goes_on_before(self):
        out = entries_of(ask("c"), ask("b.c"), ask("a.b.c"))
        self.assertEqual(out, question(name("c")) + question(labels("b") + pointer(FIRST))
                         + question(labels("a") + pointer(FIRST + 7)))

    def test_what_stood_with_a_pointer_behind_it(self):
        # d.b.c has stood at the place of its d, though a pointer ended it.
        second = FIRST + 7 + 4
        out = entries_of(ask("a.b.c"), ask("d.b.c"), ask("d.b.c"), ask("e.d.b.c"), ask("e.d.b.c"))
        third = second + 8 + 6
        self.assertEqual(out, question(name("a", "b", "c")) + question(labels("d") + pointer(FIRST + 2))
                         + question(pointer(second)) + question(labels("e") + pointer(second))
                         + question(pointer(third)))

    def test_only_what_is_left_to_the_end(self):
        # Beginnings and middles do not count.
        self.assertEqual(entries_of(ask("a.b.c"), ask("a.b"), ask("b")),
                         question(name("a", "b", "c")) + question(name("a", "b"))
                         + question(pointer(FIRST + 11 + 2)))
        self.assertEqual(entries_of(ask("a.b"), ask("a.b.c")), question(name("a", "b")) + question(name("a", "b", "c")))

    def test_big_and_small_letters(self):
        self.assertEqual(entries_of(ask("a.b"), ask("A.b"), ask("a.B"), ask("A.b"), ask("a.B"), ask("B")),
                         question(name("a", "b")) + question(labels("A") + pointer(FIRST + 2))
                         + question(name("a", "B")) + question(pointer(FIRST + 9))
                         + question(pointer(FIRST + 9 + 8)) + question(pointer(FIRST + 9 + 8 + 2)))

    def test_the_same_bytes_by_escapes(self):
        self.assertEqual(entries_of(ask("a.b"), ask("\\097.\\098"), ask("c.\\098")),
                         question(name("a", "b")) + question(pointer(FIRST))
                         + question(labels("c") + pointer(FIRST + 2)))

    def test_labels_that_look_like_more(self):
        # One label that holds what stands in the message for two is another name.
        self.assertEqual(entries_of(ask("a.b"), ask("a\\001b"), ask("\\001a.b"), ask("a\\046b")),
                         question(name("a", "b")) + question(name([97, 1, 98]))
                         + question(labels([1, 97]) + pointer(FIRST + 2)) + question(name("a.b")))
        self.assertEqual(entries_of(ask("a\\001b"), ask("b")), question(name([97, 1, 98])) + question(name("b")))

    def test_root_is_a_byte(self):
        self.assertEqual(entries_of(ask("a"), ask("."), ask(".")), question(name("a")) + question([0]) * 2)
        self.assertEqual(entries_of(ask("."), ask("a")), question([0]) + question(name("a")))

    def test_a_label_again_within_a_name(self):
        self.assertEqual(entries_of(ask("a.a.a"), ask("a.a"), ask("a"), ask("a.a.a.a")),
                         question(name("a", "a", "a")) + question(pointer(FIRST + 2)) + question(pointer(FIRST + 4))
                         + question(labels("a") + pointer(FIRST)))

    def test_header_is_no_place(self):
        whole = written(begin(256 + 97, 0), ask("a"))
        self.assertEqual(whole[12:], question(name("a")))

    def test_bytes_of_data_are_no_place(self):
        for kind in (10, 16):
            data = [2] + name("a")[:2] if kind == 16 else name("a")
            self.assertEqual(entries_of(add(".", kind, data), add("a")),
                             record([0], kind, data) + record(name("a"), 10, []))
        self.assertEqual(entries_of(add(".", 1, [1, 97, 0, 0]), add("a")),
                         record([0], 1, [1, 97, 0, 0]) + record(name("a"), 10, []))
        self.assertEqual(entries_of(add(".", 15, [1, 97, 0]), add("a")),
                         record([0], 15, [1, 97, 0]) + record(name("a"), 10, []))
        end = [1, 97] + [0] * 18
        self.assertEqual(entries_of(add(".", 6, [0, 0] + end), add("a")),
                         record([0], 6, [0, 0] + end) + record(name("a"), 10, []))

    def test_names_over_all_sections(self):
        entries = [ask("x.y"), add("x.y"), add("x.y", section=2), add("z.x.y", section=3)]
        self.assertEqual(put(*entries), message(
            questions=[question(name("x", "y"))], answers=[record(pointer(12), 10, [])],
            authorities=[record(pointer(12), 10, [])], more=[record(labels("z") + pointer(12), 10, [])]))

    def test_places_far_back_and_far_on(self):
        # Places behind 255 need the pointer's first byte, the last ones lie near 4096.
        for size in (200, 240, 244, 245, 256, 1000, 4000):
            place = 23 + size
            out = put(add(".", 10, [5] * size), add("far.x"), add("y.far.x"), add("x"))
            rest = record(name("far", "x"), 10, []) + record(labels("y") + pointer(place), 10, [])
            self.assertEqual(out[place:], rest + record(pointer(place + 4), 10, []))

    def test_long_names(self):
        long_name = ["a" * 63, "b" * 63, "c" * 63, "d" * 61]
        told = ".".join(long_name)
        self.assertEqual(entries_of(ask(told), ask(told), ask(told[64:])),
                         question(name(*long_name)) + question(pointer(FIRST)) + question(pointer(FIRST + 64)))
        short = ["x"] * 127
        self.assertEqual(entries_of(ask(".".join(short)), ask("y." + ".".join(short[1:])), ask("x")),
                         question(name(*short)) + question(labels("y") + pointer(FIRST + 2))
                         + question(pointer(FIRST + 252)))


class NamesInData(unittest.TestCase):

    def test_shortened_and_pointed_to(self):
        for kind, front in ((2, []), (5, []), (12, []), (15, [0, 10])):
            data = 12 + 7 + 14 + len(front)
            out = entries_of(ask("x"), add("y.x", kind, front + name("n", "x")), add("n.x"), add("m.n.x"))
            self.assertEqual(out, question(name("x"))
                             + record(labels("y") + pointer(12), kind, front + labels("n") + pointer(12))
                             + record(pointer(data), 10, []) + record(labels("m") + pointer(data), 10, []), kind)

    def test_the_whole_name_stood_before(self):
        for kind, front in ((2, []), (5, []), (12, []), (15, [0, 10])):
            self.assertEqual(entries_of(add("a.x", kind, front + name("a", "x"))),
                             record(name("a", "x"), kind, front + pointer(12)), kind)
            self.assertEqual(entries_of(add("a.x", kind, front + name("x"))),
                             record(name("a", "x"), kind, front + pointer(14)), kind)

    def test_size_of_the_data_is_as_written(self):
        long_parts = ["l" * 63, "m" * 63, "n" * 63, "o" * 61]
        out = entries_of(add(".", 2, name(*long_parts)), add(".", 2, name(*long_parts)), add(".", 5, name("x")))
        self.assertEqual(out, record([0], 2, name(*long_parts)) + record([0], 2, pointer(23))
                         + record([0], 5, name("x")))
        self.assertEqual(out[9:11], [0, 255])

    def test_size_of_more_than_255(self):
        parts = ["l" * 63, "m" * 63, "n" * 63, "o" * 61]
        data = [1, 2] + name(*parts)
        self.assertEqual(entries_of(add(".", 15, data)), record([0], 15, data))
        self.assertEqual(entries_of(add(".", 15, data))[9:11], [1, 1])

    def test_two_names(self):
        self.assertEqual(entries_of(add("x", 6, name("m", "x") + name("r", "x") + TIMES)),
                         record(name("x"), 6, labels("m") + pointer(12) + labels("r") + pointer(12) + TIMES))

    def test_second_name_points_to_the_first(self):
        self.assertEqual(entries_of(add(".", 6, name("m", "x") + name("m", "x") + TIMES)),
                         record([0], 6, name("m", "x") + pointer(23) + TIMES))
        self.assertEqual(entries_of(add(".", 6, name("m", "x") + name("r", "x") + TIMES)),
                         record([0], 6, name("m", "x") + labels("r") + pointer(25) + TIMES))

    def test_two_names_are_pointed_to(self):
        out = entries_of(add(".", 6, name("m", "x") + name("r", "y") + TIMES), add("m.x"), add("r.y"), add("y"),
                         add("x"))
        self.assertEqual(out, record([0], 6, name("m", "x") + name("r", "y") + TIMES) + record(pointer(23), 10, [])
                         + record(pointer(28), 10, []) + record(pointer(30), 10, []) + record(pointer(25), 10, []))

    def test_first_of_two_records(self):
        # The same name in data comes again as a pointer, and both later names lead to the first place.
        out = entries_of(add(".", 2, name("n", "x")), add(".", 5, name("n", "x")), add(".", 12, name("n", "x")))
        self.assertEqual(out, record([0], 2, name("n", "x")) + record([0], 5, pointer(23))
                         + record([0], 12, pointer(23)))

    def test_entry_name_comes_before_its_data(self):
        self.assertEqual(entries_of(add("n.x", 2, name("n", "x")), add("n.x", 2, name("y", "n", "x"))),
                         record(name("n", "x"), 2, pointer(12)) + record(pointer(12), 2, labels("y") + pointer(12)))

    def test_came_with_pointers(self):
        # The second name is r.x, told whole, then shortened like any.
        data = name("m", "x") + labels("r") + pointer(2) + TIMES
        self.assertEqual(entries_of(add("x", 6, data)),
                         record(name("x"), 6, labels("m") + pointer(12) + labels("r") + pointer(12) + TIMES))
        self.assertEqual(entries_of(add("r.x", 6, data)),
                         record(name("r", "x"), 6, labels("m") + pointer(14) + pointer(12) + TIMES))
        # A pointer to a byte 0 is the root, a byte.
        self.assertEqual(entries_of(add("a", 15, [0, 9] + labels("b") + pointer(0)), add("b")),
                         record(name("a"), 15, [0, 9] + name("b")) + record(pointer(27), 10, []))
        self.assertEqual(entries_of(add("a", 15, [0, 9] + labels("a") + pointer(0))),
                         record(name("a"), 15, [0, 9] + pointer(12)))

    def test_came_with_pointers_and_is_pointed_to(self):
        data = name("m", "x") + labels("r") + pointer(2) + TIMES
        self.assertEqual(entries_of(add(".", 6, data), add("r.x"), add("s.r.x")),
                         record([0], 6, name("m", "x") + labels("r") + pointer(25) + TIMES)
                         + record(pointer(28), 10, []) + record(labels("s") + pointer(28), 10, []))


class Services(unittest.TestCase):

    FRONT = [0, 1, 0, 2, 0, 3]

    def test_written_whole_though_it_stood_before(self):
        self.assertEqual(entries_of(add("a.x", 33, self.FRONT + name("a", "x"))),
                         record(name("a", "x"), 33, self.FRONT + name("a", "x")))
        self.assertEqual(entries_of(ask("x"), add("x", 33, self.FRONT + name("b", "x"))),
                         question(name("x")) + record(pointer(12), 33, self.FRONT + name("b", "x")))

    def test_nothing_points_into_it(self):
        out = entries_of(add(".", 33, self.FRONT + name("a", "x")), add("a.x"), add("x"))
        second = 12 + 11 + 6 + 5
        self.assertEqual(out, record([0], 33, self.FRONT + name("a", "x")) + record(name("a", "x"), 10, [])
                         + record(pointer(second + 2), 10, []))

    def test_the_first_of_several_places_that_count(self):
        # a.x stands in the service's data first, then in a name server's, then again in a service's.
        out = entries_of(add(".", 33, self.FRONT + name("a", "x")), add(".", 2, name("a", "x")),
                         add(".", 33, self.FRONT + name("a", "x")), add("a.x"), add("b.x"))
        place = 12 + 11 + 11 + 11
        self.assertEqual(out, record([0], 33, self.FRONT + name("a", "x")) + record([0], 2, name("a", "x"))
                         + record([0], 33, self.FRONT + name("a", "x")) + record(pointer(place), 10, [])
                         + record(labels("b") + pointer(place + 2), 10, []))

    def test_the_entrys_own_name_is_shortened(self):
        out = entries_of(ask("s.x"), add("s.x", 33, self.FRONT + name("x")), add("t.s.x", 33, self.FRONT + [0]),
                         add("t.s.x"))
        third = 12 + 9 + 12 + 6 + 3
        self.assertEqual(out, question(name("s", "x")) + record(pointer(12), 33, self.FRONT + name("x"))
                         + record(labels("t") + pointer(12), 33, self.FRONT + [0]) + record(pointer(third), 10, []))

    def test_twice_the_same(self):
        entry = add(".", 33, self.FRONT + name("a", "x"))
        self.assertEqual(entries_of(entry, entry), record([0], 33, self.FRONT + name("a", "x")) * 2)

    def test_came_with_a_pointer(self):
        out = entries_of(add("s.a", 33, [1, 97, 0, 2, 0, 3] + labels("s") + pointer(0)), add("s.a"))
        self.assertEqual(out, record(name("s", "a"), 33, [1, 97, 0, 2, 0, 3] + name("s", "a"))
                         + record(pointer(12), 10, []))


class ToldAgain(unittest.TestCase):
    """What message answers, handed to text."""

    def test_the_same_entries(self):
        whole = written(
            begin(4660, 33152), ask("www.example.com", 255, 255), ask(".", 2),
            add("www.example.com", 5, name("web", "example", "com"), ttl=300),
            add("web.example.com", 1, [10, 0, 0, 1], ttl=4294967295),
            add("\\000\\046.example.com", 28, list(range(16)), cls=3),
            add("example.com", 2, name("ns", "example", "com"), section=2),
            add("example.com", 6, name("ns", "example", "com") + labels("me") + pointer(3) + TIMES, section=2, cls=4),
            add("com", 12, [0], section=3), add("example.com", 15, [1, 0] + labels("mx") + pointer(1), section=3),
            add("_s.example.com", 33, [0, 1, 0, 2, 0, 3] + name("web", "example", "com"), section=3),
            add(".", 16, [0, 3, 97, 34, 98], section=3), add("t", 99, [], section=3),
            add("t", 99, [1, 171], section=3, cls=5))
        self.assertEqual(tell(whole), "\n".join((
            "ID 4660 FLAGS 8180",
            "Q www.example.com CLASS255 TYPE255",
            "Q . IN NS",
            "AN www.example.com 300 IN CNAME web.example.com",
            "AN web.example.com 4294967295 IN A 10.0.0.1",
            "AN \\000\\046.example.com 0 CH AAAA 0001:0203:0405:0607:0809:0a0b:0c0d:0e0f",
            "NS example.com 0 IN NS ns.example.com",
            "NS example.com 0 HS SOA ns.example.com me.example.com 1 2 3 4 5",
            "AR com 0 IN PTR .",
            "AR example.com 0 IN MX 256 mx",
            "AR _s.example.com 0 IN SRV 1 2 3 web.example.com",
            'AR . 0 IN TXT "" "a\\034b"',
            "AR t 0 IN TYPE99 \\# 0",
            "AR t 0 CLASS5 TYPE99 \\# 2 01ab",
            "")))

    def test_every_pair_of_names(self):
        # Each name behind each other one, as an entry's name and in data: the text tells both again.
        told = [".", "a", "A", "b", "a.b", "b.a", "a.a", "b.a.b", "a.b.a.b", "a\\001b", "\\001a.b", "\\000", "a.\\000"]
        parts = {words: put(ask(words))[12:-4] for words in told}
        kinds = ((2, [], "NS "), (15, [0, 7], "MX 7 "), (33, [0, 7, 0, 8, 0, 9], "SRV 7 8 9 "))
        for first in told:
            for second in told:
                self.assertEqual(lines(put(ask(first), ask(second))), [f"Q {first} IN A", f"Q {second} IN A"])
                for kind, front, shown in kinds:
                    whole = put(add(first, kind, front + parts[second]), add(second, kind, front + parts[first]))
                    self.assertEqual(lines(whole), [f"AN {first} 0 IN {shown}{second}",
                                                    f"AN {second} 0 IN {shown}{first}"])
                soa = put(add(first, 6, parts[second] + parts[first] + TIMES), add(second))
                self.assertEqual(lines(soa), [f"AN {first} 0 IN SOA {second} {first} 1 2 3 4 5",
                                              f"AN {second} 0 IN TYPE10 \\# 0"])

    def test_put_together_again(self):
        # What was shortened is as short when it is put together from its text's names.
        calls = [ask("a.b.c"), ask("b.c"), add("d.b.c", 2, name("a", "b", "c")), add("x.d.b.c", section=3)]
        whole = put(*calls)
        told = [line.split(" ")[1] for line in lines(whole)]
        self.assertEqual(told, ["a.b.c", "b.c", "d.b.c", "x.d.b.c"])
        self.assertEqual(put(ask(told[0]), ask(told[1]), add(told[2], 2, name("a", "b", "c")), add(told[3], section=3)),
                         whole)


if __name__ == "__main__":
    unittest.main()
