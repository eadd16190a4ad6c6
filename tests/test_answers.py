"""What the interface says of answers, and of the whole program."""

import contextlib
import io
import pathlib
import string
import subprocess
import sys
import unittest

from building import Guarded, add, answered, ask, begin, give, labels, message, name, pointer, question, record, written

from postnames.desk import answers, text

MIXED = (begin(4660, 33152) + ask("www.x") + add("www.x", 5, name("w", "x"), ttl=300) + add("a", 1, [1]) + give(3)
         + add("w.x", 1, [10, 0, 0, 1], section=3) + ask("late") + give(200) + begin(-1, 0) + begin(1, 2) + give(12))
WHOLE = message(number=4660, flags=33152, questions=[question(name("www", "x"))],
                answers=[record(pointer(12), 5, labels("w") + pointer(16), ttl=300)],
                more=[record(pointer(12 + 11 + 12), 1, [10, 0, 0, 1])])
MIXED_ANSWERS = ([1, 0] + [1, 0] + [1, 0] + [1, -1] + [1, -2] + [1, 0] + [1, -1] + [len(WHOLE) + 1, len(WHOLE)] + WHOLE
                 + [1, -1] + [1, 0] + [13, 12, 0, 1, 0, 2] + [0] * 8)


class Lists(unittest.TestCase):

    def test_one_behind_another(self):
        self.assertEqual(answers(MIXED), MIXED_ANSWERS)

    def test_one_call(self):
        self.assertEqual(answers([1, 0, 0]), [1, 0])

    def test_a_list_of_whole_numbers(self):
        told = answers(MIXED)
        self.assertIs(type(told), list)
        for number in told:
            self.assertIs(type(number), int)

    def test_arguments_by_name(self):
        self.assertEqual(answers(calls=MIXED), MIXED_ANSWERS)

    def test_next_call_stands_behind_what_is_refused(self):
        refused = (begin(-1, 4), begin(4, -1), ask("", 4, 4), ask("4.", 4), ask("4", -1, -1), add("4", section=9),
                   add("", 1, [4, 4, 4]), add("4", 1, [4] * 5), add("4", -1, [4]), add("4", ttl=-1),
                   add("4", 10, [4] * 4096), give(4))
        for call in refused:
            out = answered(begin(), call, give())
            self.assertEqual(len(out[1]), 1)
            self.assertLess(out[1][0], 0)
            self.assertEqual(out[2], [12] + [0] * 12)

    def test_rows_with_numbers_like_calls(self):
        self.assertEqual(written(begin(), add("1.2.3.4", 10, [1, 2, 3, 4] * 3)),
                         message(answers=[record(name("1", "2", "3", "4"), 10, [1, 2, 3, 4] * 3)]))


class Sizes(unittest.TestCase):

    def test_300_calls(self):
        self.assertEqual(answered(begin(), *[ask("a")] * 298, give())[-1][0], 12 + 7 + 297 * 6)
        self.assertEqual(answered(*[begin(7, 7)] * 300), [[0]] * 300)
        out = answered(begin(), add(".", 10, [1] * 4073), *[give()] * 298)
        self.assertEqual(out[2:], [out[2]] * 298)
        self.assertEqual(out[2][0], 4096)

    def test_300_refused(self):
        full = [begin(), add(".", 10, [1] * 4073)]
        self.assertEqual(answered(*full, *[add("a.b")] * 297, give())[2:-1], [[-2]] * 297)

    def test_16000_numbers(self):
        for calls in ([begin()] + [add("a.b", 10, [7] * 41)] * 297, [begin()] + [ask(".".join(["x"] * 127))] * 62,
                      [begin()] + [add("a", 10, [9] * 3980)] * 4):
            numbers = [number for call in calls for number in call]
            self.assertGreater(len(numbers), 15000)
            self.assertLessEqual(len(numbers), 16000)
            self.assertEqual(answers(numbers), answers(numbers))
        # The last of the three: the first record has room, the others have not.
        self.assertEqual(answers(numbers), [1, 0, 1, 0] + [1, -2] * 3)

    def test_many_different_names(self):
        # Every name has 127 labels, and nothing in common with another but for what comes before its end.
        names = [".".join(["x"] * 126 + [sign]) for sign in string.ascii_letters + string.digits]
        out = answered(begin(), *[ask(told) for told in names[:60]], give())
        fitting = (4096 - 12) // 259
        self.assertEqual(out[1:-1], [[0]] * fitting + [[-2]] * (60 - fitting))
        self.assertEqual(out[-1][0], 12 + 259 * fitting)

    def test_few_calls_within_one_another(self):
        calls = begin() + ask(".".join(["x"] * 127)) * 40 + add(".", 16, [0] * 3000) + give() * 200
        depth = 0
        frame = sys._getframe()
        while frame is not None:
            depth += 1
            frame = frame.f_back
        limit = sys.getrecursionlimit()
        sys.setrecursionlimit(depth + 60)
        try:
            told = answers(calls)
        finally:
            sys.setrecursionlimit(limit)
        self.assertEqual(told[:84], [1, 0] * 42)


class Keeping(unittest.TestCase):

    def test_nothing_handed_in_is_changed(self):
        for calls in (MIXED, begin(), begin() + add(".", 10, [1] * 4073) + give()):
            guarded = Guarded(calls)
            answers(guarded)
            self.assertEqual(list(guarded), list(calls))

    def test_second_time_answers_as_the_first(self):
        self.assertEqual(answers(MIXED), MIXED_ANSWERS)
        self.assertEqual(answers(MIXED), MIXED_ANSWERS)

    def test_the_object_is_new_each_time(self):
        # Neither entries nor places nor the section are left from the list before.
        answers(begin(9, 9) + ask("a.b") + add("c.a.b", section=3))
        self.assertEqual(answers(begin() + ask("a.b") + give()),
                         [1, 0, 1, 0, 22, 21] + message(questions=[question(name("a", "b"))]))

    def test_answers_are_lists_of_their_own(self):
        first = answers(MIXED)
        first[:] = [0]
        self.assertEqual(answers(MIXED), MIXED_ANSWERS)

    def test_text_in_between(self):
        before = text(1000, WHOLE)
        self.assertEqual(answers(MIXED), MIXED_ANSWERS)
        self.assertEqual(text(1000, WHOLE), before)

    def test_nothing_is_printed(self):
        out = io.StringIO()
        wrong = io.StringIO()
        with contextlib.redirect_stdout(out), contextlib.redirect_stderr(wrong):
            answers(MIXED)
        self.assertEqual(out.getvalue() + wrong.getvalue(), "")

    def test_nothing_is_imported_when_called(self):
        script = ("import sys\nfrom postnames.desk import answers, text\nbefore = set(sys.modules)\n"
                  f"answers({MIXED!r})\ntext(1000, {WHOLE!r})\ntext(1000, [1])\n"
                  "print(sorted(set(sys.modules) - before))\n")
        root = pathlib.Path(__file__).resolve().parent.parent
        out = subprocess.run([sys.executable, "-c", script], cwd=root, capture_output=True, text=True, check=True)
        self.assertEqual(out.stdout, "[]\n")


if __name__ == "__main__":
    unittest.main()
