"""Texts of 100000 bytes."""

import unittest

from rilltexts.programs import judge
from rilltexts.programs import tokens
from tests.helper import text

LENGTH = 100000


def filled(words):
    """The text with blanks behind it, so that it has just 100000 bytes."""
    return text(words + " " * (LENGTH - len(words)))


class Long(unittest.TestCase):
    def test_many_declarations(self):
        t = filled("const Abcdefghij = 1 + 2;" * 3999)
        self.assertEqual(judge(t), [3999])
        self.assertEqual(tokens(t)[0], 3999 * 7)
        t = filled("const A=f(12345678,2345);" * 4000)
        self.assertEqual(judge(t), [4000])

    def test_a_long_row_of_operators(self):
        for sign in ("+", "-", "*", "/", "%", "&", "|", "^"):
            t = filled("const A=1" + (sign + "1") * 49995 + ";")
            self.assertEqual(judge(t), [1], sign)
            self.assertEqual(tokens(t)[0], 4 + 2 * 49995 + 1, sign)
        for sign in ("<<", ">>", "&&", "||"):
            self.assertEqual(judge(filled("const A=1" + (sign + "a") * 33330 + ";")), [1], sign)
        self.assertEqual(judge(filled("const A=1" + "+1" * 49990 + "<1<1;")), [-2, 2, 9 + 2 * 49990 + 2])

    def test_a_long_row_behind_an_atom(self):
        self.assertEqual(judge(filled("const A=a" + "@1" * 49995 + ";")), [1])
        self.assertEqual(judge(filled("const A=a" + "[1]" * 33330 + ";")), [1])

    def test_a_long_table(self):
        t = filled("table T:u8=[1" + ",2" * 49992 + "];")
        self.assertEqual(judge(t), [1])
        self.assertEqual(tokens(t)[0], 7 + 2 * 49992 + 2)
        self.assertEqual(judge(filled("table T:u8=[1" + ",2" * 49992 + ",]")), [-2, 2, 13 + 2 * 49992 + 1])

    def test_a_long_note(self):
        t = text("//" + "x" * (LENGTH - 2))
        self.assertEqual((judge(t), tokens(t)), ([0], [0]))
        t = text("//" + "/" * (LENGTH - 3) + "\n")
        self.assertEqual((judge(t), tokens(t)), ([0], [0]))
        t = text("const A=1;//" + "$" * (LENGTH - 12))
        self.assertEqual((judge(t), tokens(t)[0]), ([1], 5))
        t = text("//\n" * 33333 + "$")
        self.assertEqual((judge(t), tokens(t)), ([-2, 1, 99999], [-2, 1, 99999]))

    def test_long_runs(self):
        for sign in ("a", "1", "0", "_"):
            t = text(sign * LENGTH)
            self.assertEqual((judge(t), tokens(t)), ([-2, 1, 0], [-2, 1, 0]), sign)
        t = text("0x" + "F" * (LENGTH - 2))
        self.assertEqual((judge(t), tokens(t)), ([-2, 1, 0], [-2, 1, 0]))

    def test_deep_beginnings(self):
        for ahead, place in (("(", 51), ("-", 136), ("f(", 8 + 2 * 43), ("a[", 8 + 2 * 64), ("a?", 8 + 2 * 127),
                             ("abs(", 8 + 4 * 43)):
            self.assertEqual(judge(text("const A=" + ahead * ((LENGTH - 8) // len(ahead)))), [-2, 3, place], ahead)

    def test_many_tokens(self):
        self.assertEqual(tokens(text(";" * LENGTH))[0], LENGTH)
        self.assertEqual(judge(text(";" * LENGTH)), [-2, 2, 0])
        self.assertEqual(tokens(text("a " * 50000))[0], 50000)


if __name__ == "__main__":
    unittest.main()
