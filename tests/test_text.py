"""Point 8: text's answers, and what the interface says of it."""

import contextlib
import io
import sys
import unittest

from building import MOST, Guarded, labels, lines, message, name, pointer, question, record, two

from postnames.desk import text

SMALL = message(questions=[question(name("a"))], answers=[record(pointer(12), 16, labels('"x', ""))], number=7)
SMALL_TEXT = 'ID 7 FLAGS 0000\nQ a IN A\nAN a 0 IN TXT "\\034x" ""\n'


def of_size(size):
    """A message of so many bytes: one record of the root."""
    return message(answers=[record([0], 10, [5] * (size - 23))])


class Answers(unittest.TestCase):

    def test_count_and_bytes(self):
        self.assertEqual(text(MOST, SMALL), [len(SMALL_TEXT)] + list(SMALL_TEXT.encode("ascii")))

    def test_a_list_of_whole_numbers(self):
        for answer in (text(MOST, SMALL), text(0, SMALL), text(0, [])):
            self.assertIs(type(answer), list)
            for number in answer:
                self.assertIs(type(number), int)

    def test_refusals_stand_alone(self):
        self.assertEqual(text(MOST, []), [-1])
        self.assertEqual(text(0, SMALL), [-2])


class Sizes(unittest.TestCase):

    def test_4096_bytes(self):
        for size in (4095, 4096):
            whole = of_size(size)
            self.assertEqual(len(whole), size)
            self.assertEqual(lines(whole), [f"AN . 0 IN TYPE10 \\# {size - 23} " + "05" * (size - 23)])

    def test_more_than_4096_bytes(self):
        for size in (4097, 4098, 5000):
            whole = of_size(size)
            self.assertEqual(len(whole), size)
            for most in (-1, 0, 100, MOST):
                self.assertEqual(text(most, whole), [-1])

    def test_5000_bytes_that_begin_like_a_message(self):
        self.assertEqual(text(MOST, SMALL + [0] * (5000 - len(SMALL))), [-1])

    def test_many_entries(self):
        whole = message(questions=[question([0])] * 816)
        self.assertEqual(len(whole), 4092)
        self.assertEqual(lines(whole), ["Q . IN A"] * 816)

    def test_long_text(self):
        parts = [[0] * 63, [1] * 63, [2] * 63, [3] * 61]
        told = ".".join(f"\\{part[0]:03}" * len(part) for part in parts)
        whole = message(questions=[question(name(*parts))] + [question(pointer(12))] * 637)
        self.assertLessEqual(len(whole), 4096)
        self.assertEqual(lines(whole), [f"Q {told} IN A"] * 638)


class Most(unittest.TestCase):

    def test_around_the_size(self):
        for whole in (SMALL, [0] * 12, of_size(4096)):
            size = text(MOST, whole)[0]
            fitting = text(MOST, whole)
            self.assertEqual(text(size - 1, whole), [-2])
            self.assertEqual(text(size, whole), fitting)
            self.assertEqual(text(size + 1, whole), fitting)

    def test_none_and_less(self):
        for most in (0, -1, -2, -4096, -2147483648):
            self.assertEqual(text(most, SMALL), [-2])
            self.assertEqual(text(most, [0] * 12), [-2])

    def test_no_message_with_a_small_most(self):
        cut = SMALL[:-1]
        longer = SMALL + [0]
        counted = two(0) * 2 + two(1) + two(0) * 3
        for most in (1, 0, -1, -2147483648):
            for wrong in ([], [0], [0] * 11, [0] * 13, cut, longer, counted):
                self.assertEqual(text(most, wrong), [-1])


class Interface(unittest.TestCase):

    def test_nothing_handed_in_is_changed(self):
        for given in (SMALL, SMALL[:-1], [], of_size(4096), of_size(4097)):
            guarded = Guarded(given)
            for most in (MOST, 0):
                text(most, guarded)
            self.assertEqual(list(guarded), list(given))

    def test_answers_are_lists_of_their_own(self):
        first = text(MOST, SMALL)
        kept = list(first)
        first[:] = [0]
        self.assertEqual(text(MOST, SMALL), kept)
        refused = text(MOST, [])
        refused.append(0)
        self.assertEqual(text(MOST, []), [-1])

    def test_second_call_answers_as_the_first(self):
        given = [(MOST, SMALL), (3, SMALL), (MOST, SMALL[:-1]), (MOST, of_size(4096)), (MOST, [0] * 12), (0, [])]
        first = [text(most, whole) for most, whole in given]
        self.assertEqual([text(most, whole) for most, whole in given], first)
        self.assertEqual([text(most, whole) for most, whole in reversed(given)], first[::-1])

    def test_nothing_is_printed(self):
        out = io.StringIO()
        wrong = io.StringIO()
        with contextlib.redirect_stdout(out), contextlib.redirect_stderr(wrong):
            text(MOST, SMALL)
            text(0, SMALL)
            text(MOST, [])
        self.assertEqual(out.getvalue() + wrong.getvalue(), "")

    def test_arguments_by_name(self):
        self.assertEqual(text(most=MOST, message=SMALL), text(MOST, SMALL))

    def test_few_calls_within_one_another(self):
        # A chain of pointers, many labels and many entries must not need calls as deep as they are long.
        before = name("z")
        last = 23
        for turn in range(1900):
            following = 23 + len(before)
            before += pointer(last)
            last = following
        whole = message(answers=[record([0], 10, before), record(pointer(last), 10, [])])
        depth = 0
        frame = sys._getframe()
        while frame is not None:
            depth += 1
            frame = frame.f_back
        limit = sys.getrecursionlimit()
        sys.setrecursionlimit(depth + 60)
        try:
            answer = text(MOST, whole)
        finally:
            sys.setrecursionlimit(limit)
        self.assertTrue(bytes(answer[1:]).endswith(b"AN z 0 IN TYPE10 \\# 0\n"))


if __name__ == "__main__":
    unittest.main()
