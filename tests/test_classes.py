"""Call 8, classes: what each byte of any text is."""

import string
import unittest

from rilltexts.programs import classes
from rilltexts.programs import tokens
from tests.helper import SIGNS
from tests.helper import text

BLANKS = " \n"
LETTERS = string.ascii_letters + "_"
DIGITS = "0123456789"
SIGN_BYTES = "->=<!&|+*/%^~?:;,@()[]{}"


def class_of(sign):
    if sign in BLANKS:
        return 1
    if sign in LETTERS:
        return 2
    if sign in DIGITS:
        return 3
    return 4 if sign in SIGN_BYTES else 0


class Classes(unittest.TestCase):
    def test_the_signs_bytes(self):
        self.assertEqual(set(SIGN_BYTES), set("".join(SIGNS)))

    def test_all_bytes(self):
        whole = [chr(byte) for byte in range(256)]
        self.assertEqual(classes(list(range(256))), [0] + [class_of(sign) for sign in whole])
        self.assertEqual(classes(list(range(255, -1, -1))), [0] + [class_of(sign) for sign in reversed(whole)])
        for byte in range(256):
            self.assertEqual(classes([byte]), [0, class_of(chr(byte))], byte)
            self.assertEqual(classes([byte, byte, 65]), [0, class_of(chr(byte)), class_of(chr(byte)), 2], byte)

    def test_how_many_there_are_of_each(self):
        answer = classes(list(range(256)))[1:]
        self.assertEqual([answer.count(number) for number in range(5)], [256 - 2 - 53 - 10 - 24, 2, 53, 10, 24])

    def test_bytes_beside_those_that_count(self):
        for byte in (0, 9, 11, 12, 13, 31, 34, 35, 36, 39, 46, 92, 96, 127, 128, 160, 192, 255):
            self.assertEqual(classes([byte]), [0, 0], byte)
        for byte, number in ((32, 1), (33, 4), (37, 4), (38, 4), (40, 4), (45, 4), (47, 4), (48, 3), (57, 3), (58, 4), (64, 4), (65, 2),
                             (90, 2), (91, 4), (93, 4), (94, 4), (95, 2), (97, 2), (122, 2), (123, 4), (126, 4), (10, 1)):
            self.assertEqual(classes([byte]), [0, number], byte)

    def test_nothing(self):
        self.assertEqual(classes([]), [0])

    def test_a_programs_text(self):
        self.assertEqual(classes(text("const A_1=0x1F;\n")), [0, 2, 2, 2, 2, 2, 1, 2, 2, 3, 4, 3, 2, 3, 2, 4, 1])

    def test_notes_are_bytes_as_others(self):
        self.assertEqual(classes(text("//a1 $\n")), [0, 4, 4, 2, 3, 1, 0, 1])

    def test_texts_that_are_no_programs(self):
        for words in ("$", "const", "01", "0x", "a" * 33, "(", ")", "\x00\x01", "a$b 1\t2", "-->>", "const A = 1;;", "\xe9t\xe9"):
            self.assertEqual(classes(text(words)), [0] + [class_of(sign) for sign in words], words)

    def test_long_texts(self):
        for words in ("a", "1", " ", "+", "$", "const A = 0x1F; // n\n"):
            whole = (words * 100000)[:100000]
            self.assertEqual(classes(text(whole)), [0] + [class_of(sign) for sign in whole])

    def test_texts_that_are_too_long(self):
        self.assertEqual(classes([36] * 1048577), [-1])
        self.assertEqual(classes([32] * 1048577), [-1])
        self.assertEqual(classes([32] * 1048576), [0] + [1] * 1048576)

    def test_a_tokens_bytes(self):
        """Tokens begin with bytes of their sort, and none of their bytes is blank."""
        t = text("node n(x: s16 / 2) -> (y: s16) {\n  y = held s16(x[0] - x[1]) << 0xFF;\n}\n")
        answer = tokens(t)
        kinds = classes(t)[1:]
        for first, length, what in zip(answer[1::4], answer[2::4], answer[3::4]):
            self.assertEqual(kinds[first], (2, 3, 2, 4)[what])
            for kind in kinds[first:first + length]:
                self.assertIn(kind, ((2, 3), (2, 3), (2, 3), (4,))[what])


class Calls(unittest.TestCase):
    def test_what_is_handed_in_stays_as_it_was_and_nothing_is_kept(self):
        for words in ("", "const A=1;", "$", "a\x00"):
            t = text(words)
            first = classes(t)
            self.assertEqual(t, text(words))
            self.assertEqual(classes(t), first)
            first.append(7)
            first[0] = 9
            self.assertNotEqual(classes(t), first)
            self.assertEqual(t, text(words))

    def test_answers_are_lists_of_whole_numbers(self):
        for t in ([], [0, 10, 48, 65, 43], [32] * 1048577):
            answer = classes(t)
            self.assertIs(answer.__class__, list)
            for number in answer:
                self.assertIs(number.__class__, int)


if __name__ == "__main__":
    unittest.main()
