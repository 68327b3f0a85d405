"""Call 2, tokens, and the section Tokens."""

import unittest

from rilltexts.programs import judge
from rilltexts.programs import tokens
from tests.helper import KEPT_WORDS
from tests.helper import SIGNS
from tests.helper import number_of_token
from tests.helper import spaced
from tests.helper import text


class BlanksAndNotes(unittest.TestCase):
    def test_nothing_but_blanks_and_notes(self):
        for words in ("", " ", "\n", " \n \n\n ", "//", "// a note", "// a\n// b\n", "  //\n  ", "///", "//$\t\r\x00\xff"):
            self.assertEqual(tokens(text(words)), [0], words)

    def test_a_note_ends_ahead_of_the_line_end(self):
        self.assertEqual(tokens(text("a// x\nb")), [2, 0, 1, 0, 0, 6, 1, 0, 0])
        self.assertEqual(tokens(text("a//\nb")), [2, 0, 1, 0, 0, 4, 1, 0, 0])
        self.assertEqual(tokens(text("const//n\nA=1;")), [5, 0, 5, 2, 2, 9, 1, 0, 0, 10, 1, 3, 21, 11, 1, 1, 0, 12, 1, 3, 24])

    def test_a_note_at_the_end_needs_no_line_end(self):
        self.assertEqual(tokens(text("a // b")), [1, 0, 1, 0, 0])
        self.assertEqual(tokens(text("a//")), [1, 0, 1, 0, 0])

    def test_a_note_ends_with_its_line(self):
        self.assertEqual(tokens(text("// $\n$")), [-2, 1, 5])

    def test_two_slashes_apart_are_no_note(self):
        self.assertEqual(tokens(text("/ /")), [2, 0, 1, 3, 12, 2, 1, 3, 12])

    def test_other_white_bytes_are_no_blanks(self):
        for byte in (0, 9, 11, 12, 13, 127, 128, 133, 160, 255):
            self.assertEqual(tokens([97, 32, byte, 98]), [-2, 1, 2], byte)


class WordsAndSigns(unittest.TestCase):
    def test_each_kept_word(self):
        self.assertEqual(len(KEPT_WORDS), 26)
        for which, word in enumerate(KEPT_WORDS):
            self.assertEqual(tokens(text(word)), [1, 0, len(word), 2, which], word)

    def test_words_like_kept_words_are_names(self):
        for word in KEPT_WORDS:
            for other in (word + "_", "_" + word, word.upper(), word[:-1] + "z", word + "0"):
                self.assertEqual(tokens(text(other)), [1, 0, len(other), 0, 0], other)

    def test_each_sign(self):
        self.assertEqual(len(SIGNS), 33)
        for which, sign in enumerate(SIGNS):
            self.assertEqual(tokens(text(sign)), [1, 0, len(sign), 3, which], sign)
            self.assertEqual(tokens(text("a" + sign + " b"))[5:9], [1, len(sign), 3, which], sign)

    def test_signs_are_as_long_as_they_can_be(self):
        for words, signs in (
            ("<<", ["<<"]), ("<=", ["<="]), ("< <", ["<", "<"]), ("<<<", ["<<", "<"]), ("<<=", ["<<", "="]),
            ("<==", ["<=", "="]), ("<-", ["<", "-"]), ("->", ["->"]), ("- >", ["-", ">"]), ("-->", ["-", "->"]),
            ("->>", ["->", ">"]), ("->=", ["->", "="]), ("--", ["-", "-"]), ("=", ["="]), ("==", ["=="]),
            ("===", ["==", "="]), ("=>", ["=", ">"]), ("=!=", ["=", "!="]), ("!", ["!"]), ("!=", ["!="]),
            ("!==", ["!=", "="]), ("!!", ["!", "!"]), ("&", ["&"]), ("&&", ["&&"]), ("&&&", ["&&", "&"]),
            ("|", ["|"]), ("||", ["||"]), ("|||", ["||", "|"]), ("&|", ["&", "|"]), (">>", [">>"]), (">=", [">="]),
            (">>=", [">>", "="]), (">", [">"]), ("<>", ["<", ">"]), ("*/", ["*", "/"]), ("(){}[]", list("(){}[]")),
        ):
            answer = tokens(text(words))
            self.assertEqual(answer[0], len(signs), words)
            self.assertEqual(answer[4::4], [SIGNS.index(sign) for sign in signs], words)

    def test_names(self):
        for word in ("a", "Z", "_", "__", "a1", "_9", "x0F", "A" * 32, "_" + "9" * 31):
            self.assertEqual(tokens(text(word)), [1, 0, len(word), 0, 0], word)

    def test_a_word_of_33_bytes_is_no_token(self):
        self.assertEqual(tokens(text("b " + "a" * 33)), [-2, 1, 2])
        self.assertEqual(tokens(text("a" * 32 + "1")), [-2, 1, 0])
        self.assertEqual(tokens(text("  " + "_" * 1000)), [-2, 1, 2])

    def test_bytes_that_begin_no_token(self):
        for byte in range(256):
            if byte in (32, 10) or chr(byte) in "".join(SIGNS) or chr(byte).isascii() and chr(byte).isalnum() or byte == 95:
                self.assertNotEqual(tokens([byte])[0], -2, byte)
            else:
                self.assertEqual(tokens([byte]), [-2, 1, 0], byte)
                self.assertEqual(tokens([97, 59, byte]), [-2, 1, 2], byte)
                self.assertEqual(tokens([97, byte, 97]), [-2, 1, 1], byte)

    def test_the_first_of_several_is_told(self):
        self.assertEqual(tokens(text("a 01 $")), [-2, 1, 2])
        self.assertEqual(tokens(text("a $ 01")), [-2, 1, 2])


class Numbers(unittest.TestCase):
    def test_right_ones(self):
        for word in (
            "0", "1", "9", "10", "100", "9223372036854775807", "1000000000000000000", "0x0", "0x1", "0xF", "0x10",
            "0xABCDEF", "0x9", "0xA0", "0x7FFFFFFFFFFFFFFF", "0x1000000000000000", "0xFFFFFFFFFFFFFFF",
        ):
            self.assertEqual(tokens(text(word)), [1, 0, len(word), 1, 0], word)
            self.assertEqual(judge(text("const A = " + word + ";")), [1], word)

    def test_wrong_ones(self):
        for word in (
            "00", "01", "007", "9223372036854775808", "9223372036854775810", "9999999999999999999",
            "10000000000000000000", "1" * 5000, "0x", "0x0F", "0x00", "0x8000000000000000", "0xFFFFFFFFFFFFFFFF",
            "0x10000000000000000", "0x00000000000000001", "0x0000000000000001", "0xa", "0xAb", "0xG", "0x1g", "0x_", "0x1_",
            "0X1", "0xx1", "00x1", "1x1", "12a", "1_", "0_", "0a", "1e5", "0b1", "1" + "a" * 40,
        ):
            self.assertEqual(tokens(text(word)), [-2, 1, 0], word)
            self.assertEqual(tokens(text("a + " + word + " ;")), [-2, 1, 4], word)
            self.assertEqual(judge(text("const A = " + word + ";")), [-2, 1, 10], word)

    def test_numbers_beside_signs(self):
        self.assertEqual(tokens(text("-1")), [2, 0, 1, 3, 10, 1, 1, 1, 0])
        self.assertEqual(tokens(text("0//1")), [1, 0, 1, 1, 0])
        self.assertEqual(tokens(text("1.5")), [-2, 1, 1])


class Places(unittest.TestCase):
    def test_tokens_are_where_they_are_told(self):
        words = KEPT_WORDS + SIGNS + ["a", "B_9", "0", "0x7F", "12"] + SIGNS[::-1]
        for gap in (" ", "\n", "  \n ", " // n\n", "\n//\n"):
            written = gap.join(words) + gap
            answer = tokens(text(written))
            self.assertEqual(answer[0], len(words))
            for number, word in enumerate(words):
                four = answer[1 + 4 * number:5 + 4 * number]
                self.assertEqual(written[four[0]:four[0] + four[1]], word)
                self.assertEqual(four[2:], number_of_token(word))
            self.assertEqual(len(answer), 1 + 4 * len(words))

    def test_of_any_text(self):
        written, places = spaced(["const", "const", "=", ")"])
        self.assertEqual(tokens(written), [4, places[0], 5, 2, 2, places[1], 5, 2, 2, places[2], 1, 3, 21, places[3], 1, 3, 28])

    def test_a_text_that_is_too_long(self):
        self.assertEqual(tokens([32] * 1048576), [0])
        self.assertEqual(tokens([32] * 1048577), [-1])
        self.assertEqual(tokens([36] * 1048577), [-1])


if __name__ == "__main__":
    unittest.main()
