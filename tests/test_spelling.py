"""Point 5, read the other way: which bytes are a name's text, and which name that is."""

import string
import unittest

from building import add, answered, ask, begin, give, lines, message, name, put, question, tried

PLAIN = (string.ascii_letters + string.digits + "-_").encode("ascii")


def spelled(told):
    """The name's bytes as they are written for a question, or the refusal."""
    out = answered(begin(), ask(told), give())
    if out[1] != [0]:
        if out[2] != [12] + [0] * 12:
            raise AssertionError(f"the message is not as it was: {out}")
        return out[1][0]
    whole = out[2][1:]
    if whole[:12] != message(questions=[[]])[:12] or whole[-4:] != [0, 1, 0, 1]:
        raise AssertionError(f"not one question: {whole}")
    return whole[12:-4]


class Both(unittest.TestCase):
    """What holds for a question's name holds for a record's."""

    def check(self, told, expected):
        self.assertEqual(spelled(told), expected, told)
        if isinstance(expected, list):
            self.assertEqual(put(add(told))[12:12 + len(expected)], expected, told)
        else:
            self.assertEqual(tried(add(told)), [expected], told)

    def refuse(self, *texts):
        for told in texts:
            self.check(told, -1)


class Labels(Both):

    def test_root(self):
        self.check(".", [0])

    def test_one_and_more(self):
        self.check("a", name("a"))
        self.check("a.bc.def", name("a", "bc", "def"))
        self.check("WwW.eXample-1_2.com", name("WwW", "eXample-1_2", "com"))
        self.check("-", name("-"))
        self.check("_", name("_"))
        self.check("0", name("0"))

    def test_empty_labels(self):
        self.refuse("", "..", "...", ".a", "a.", "..a", "a..", "a..b", ".a.", "a.b.", "a...b", ".\\097", "\\097.")

    def test_what_stands_for_itself(self):
        for byte in range(256):
            if byte in PLAIN:
                self.check([byte], [1, byte, 0])
                self.check([97, byte, 46, byte, 98], [2, 97, byte, 2, byte, 98, 0])
            elif byte != 46:
                self.refuse([byte], [97, byte], [byte, 97], [97, byte, 98], [97, 46, byte])


class Escapes(Both):

    def test_every_byte(self):
        for byte in range(256):
            self.check(f"\\{byte:03}", [1, byte, 0])
            self.check(f"a\\{byte:03}1.\\{byte:03}\\{byte:03}", [3, 97, byte, 49, 2, byte, byte, 0])

    def test_dot_letter_and_0(self):
        self.check("a\\046b", name("a.b"))
        self.check("\\046", name("."))
        self.check("\\046.\\046", name(".", "."))
        self.check("\\097b", name("ab"))
        self.check("\\000", name([0]))
        self.check("\\092", name("\\"))
        self.check("\\092000", name("\\000"))
        self.check("\\0011", name([1, 49]))

    def test_too_few_digits(self):
        self.refuse("\\", "\\0", "\\09", "a\\", "a\\0", "a\\09", "\\.a", "\\0.a", "\\09.a", "\\00.0", "\\097\\", "a.\\",
                    "a.\\09", "\\\\", "\\0\\097", "\\09\\097")

    def test_something_else_than_digits(self):
        self.refuse("\\a", "\\abc", "\\a00", "\\0a0", "\\00a", "\\-01", "\\0-1", "\\00-", "\\+01", "\\ 01", "\\0 1",
                    "\\00 ", "\\_01", "\\x41", "\\/00", "\\:00", "\\0/0", "\\0:0", "\\00/", "\\00:", "\\..a", "\\.00")
        self.refuse([92, 0, 0, 0], [92, 48, 48, 0], [92, 178, 48, 48], [92, 48, 48, 255])

    def test_256_and_more(self):
        self.check("\\255", [1, 255, 0])
        for number in list(range(256, 301)) + [399, 400, 512, 555, 900, 998, 999]:
            self.refuse(f"\\{number}", f"a\\{number}", f"\\{number}a", f"a.\\{number}")


class Lengths(Both):

    def test_63_and_64(self):
        for size in (1, 2, 62, 63):
            self.check("x" * size, name("x" * size))
            self.check("\\000" * size, name([0] * size))
            self.check("a." + "x" * size + ".b", name("a", "x" * size, "b"))
        for size in (64, 65, 100, 191, 192, 255, 256):
            self.refuse("x" * size, "\\000" * size, "a." + "x" * size + ".b")

    def test_255_and_256_in_long_labels(self):
        parts = ["a" * 63, "b" * 63, "c" * 63]
        for last in (60, 61):
            self.check(".".join(parts + ["d" * last]), name(*parts, "d" * last))
        for last in (62, 63):
            self.refuse(".".join(parts + ["d" * last]))

    def test_255_and_256_in_short_labels(self):
        self.check(".".join(["x"] * 127), name(*["x"] * 127))
        self.refuse(".".join(["x"] * 126 + ["yy"]), ".".join(["yy"] + ["x"] * 126), ".".join(["x"] * 128))

    def test_escapes_count_for_one(self):
        parts = [[1] * 63, [2] * 63, [3] * 63, [4] * 61]
        told = ".".join(f"\\{part[0]:03}" * len(part) for part in parts)
        self.assertEqual(len(told), 1003)
        self.check(told, name(*parts))
        self.refuse(told + "\\004", "\\001" + told, told + "x")

    def test_1024_bytes(self):
        self.refuse("x" * 1024, "\\000" * 256, "." * 1024, "x." * 512, "x" + ".x" * 511 + "y",
                    (("\\001" * 63 + ".") * 5)[:1024], [0] * 1024, [255] * 1024)
        for size in (1022, 1023, 1024):
            self.refuse("x" * size)

    def test_more_than_1024_bytes(self):
        self.assertEqual(tried(ask("x" * 1025)), [-1])
        self.assertEqual(tried(add("x" * 1025)), [-1])


class BackAndForth(unittest.TestCase):

    def test_what_text_tells_is_read(self):
        names = [name(), name("a"), name("a", "b"), name([0, 46, 92], [34, 32]),
                 name(list(range(63)), list(range(200, 256)))]
        for whole in names:
            told = lines(message(questions=[question(whole)]))[0].split(" ")[1]
            self.assertEqual(spelled(told), whole)


if __name__ == "__main__":
    unittest.main()
