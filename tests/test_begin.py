"""Point 9: begin, and how a message without entries is laid out."""

import unittest

from building import add, answered, ask, begin, give, message, name, question, written

WRONG_NUMBERS = (-1, 65536, -2, 65537, -65535, 131072, 2147483647, -2147483648)


class Numbers(unittest.TestCase):

    def test_no_entries(self):
        self.assertEqual(written(begin(4660, 33152)), [18, 52, 129, 128] + [0] * 8)

    def test_answers_0(self):
        self.assertEqual(answered(begin(4660, 33152)), [[0]])

    def test_smallest_and_largest(self):
        for number in (0, 1, 255, 256, 65534, 65535):
            for flags in (0, 1, 255, 256, 65534, 65535):
                self.assertEqual(written(begin(number, flags)), message(number=number, flags=flags))

    def test_highest_byte_first(self):
        self.assertEqual(written(begin(1, 256))[:4], [0, 1, 1, 0])

    def test_out_of_range(self):
        for wrong in WRONG_NUMBERS:
            for refused in (begin(wrong, 7), begin(7, wrong), begin(wrong, wrong)):
                self.assertEqual(answered(begin(), refused), [[0], [-1]], refused)


class Anew(unittest.TestCase):

    def test_refused_leaves_the_message(self):
        before = (begin(5, 6), ask("a"), add("b.a", 1, [1, 2, 3, 4]))
        whole = written(*before)
        for wrong in WRONG_NUMBERS:
            for refused in (begin(wrong, 7), begin(7, wrong), begin(wrong, wrong)):
                out = answered(*before, refused, give())
                self.assertEqual(out[-2:], [[-1], [len(whole)] + whole], refused)

    def test_refused_leaves_what_comes_next(self):
        before = (begin(5, 6), ask("a"), add("b.a"))
        after = (add("c.b.a"), give())
        without = answered(*before, *after)
        self.assertEqual(answered(*before, begin(-1, 0), *after), without[:3] + [[-1]] + without[3:])
        # The section that was reached is as it was, too.
        self.assertEqual(answered(*before, begin(-1, 0), ask("a"))[-2:], [[-1], [-1]])

    def test_later_one_begins_anew(self):
        self.assertEqual(written(begin(5, 6), ask("a"), add("b.a"), begin(7, 8)), message(number=7, flags=8))

    def test_nothing_is_left_of_the_message_before(self):
        # A question may come again, and no name points to where one stood before.
        before = (begin(5, 6), ask("x"), ask("b.a"), add("c.b.a", section=3))
        whole = written(*before, begin(7, 8), ask("z.b.a"), ask("c.b.a"))
        self.assertEqual(whole[12:12 + 7], name("z", "b", "a"))
        self.assertEqual(whole, written(begin(7, 8), ask("z.b.a"), ask("c.b.a")))
        self.assertEqual(whole[:12], message(number=7, flags=8)[:4] + [0, 2, 0, 0, 0, 0, 0, 0])

    def test_room_is_there_again(self):
        full = (begin(), add(".", 10, [1] * 4073))
        self.assertEqual(answered(*full, add("."))[-1], [-2])
        self.assertEqual(answered(*full, begin(), add("."))[-1], [0])

    def test_two_one_behind_another(self):
        self.assertEqual(written(begin(1, 2), begin(3, 4)), message(number=3, flags=4))
        self.assertEqual(written(begin(1, 2), ask("a"), begin(1, 2), ask("a")),
                         message(number=1, flags=2, questions=[question(name("a"))]))


if __name__ == "__main__":
    unittest.main()
