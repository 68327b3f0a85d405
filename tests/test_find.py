"""Call 6, find: the first declaration with a name."""

import unittest

from rilltexts.programs import decl
from rilltexts.programs import find
from rilltexts.programs import judge
from tests.helper import FILLERS
from tests.helper import KEPT_WORDS
from tests.helper import SIGNS
from tests.helper import filled_with
from tests.helper import in_hexadecimal
from tests.helper import text
from tests.helper import tight
from tests.helper import words_of

PROGRAM = """const A = 1 + other;
table Tab: s16 = [1, -2, element];
fn f(param, second) = sum index < (bound + 1): param[index] - called(argument);
node nod(port: s16 / factor, port2: u8[3]) -> (given: s16) {
  state kept: u8[3, 4] = 0;
  let local = sheet down, across < 2, 3: port[0];
  given[0] = held s16(local);
}
graph gra(end: u8 at rate) -> (end2: u8 at 8 / 2) {
  wire, wire2 = nod(end, wire3);
  wire4 = delay many(0)(end);
  end2 = wire4;
}
const Z = 2;
"""
NAMES = ("A", "Tab", "f", "nod", "gra", "Z")
NAMED_WITHIN = ("other", "element", "param", "second", "index", "bound", "called", "argument", "port", "port2", "factor",
                "given", "kept", "local", "down", "across", "end", "end2", "rate", "wire", "wire2", "wire3", "wire4", "many")
NO_PROGRAMS = ("x", "const", "const A = 1", "const A = 01;", "$", "const A = 1; $", "const A = a < b < c;", "const A = 1;;",
               "const A = " + "(" * 43 + "1" + ")" * 43 + ";", "const A=1;" * 4097, "const held = 1;", "A")


def forms_named(name):
    return (f"const {name}=1;", f"table {name}:u8=[1];", f"fn {name}(a)=1;", f"node {name}(x:u8)->(y:u8){{y=x;}}",
            f"graph {name}(x:u8 at 1)->(y:u8 at 1){{y=x;}}")


class Find(unittest.TestCase):
    def found(self, words, name, answer):
        self.assertEqual(find(text(words), text(name)), [answer], (words, name))


class Names(Find):
    def test_each_declarations_name(self):
        for i, name in enumerate(NAMES):
            self.found(PROGRAM, name, i)
            self.found(tight(words_of(PROGRAM)), name, i)
            for filler in FILLERS:
                self.found(filled_with(filler, words_of(PROGRAM)), name, i)

    def test_first_middle_and_last_of_each_form(self):
        for form in forms_named("sought"):
            for other in forms_named("x"):
                self.found(form, "sought", 0)
                self.found(form + other + other, "sought", 0)
                self.found(other + form + other, "sought", 1)
                self.found(other + other + form, "sought", 2)
                self.found(other + other + other, "sought", -5)

    def test_names_of_what_is_no_declaration(self):
        for name in NAMED_WITHIN:
            self.assertIn(name, words_of(PROGRAM))
            self.found(PROGRAM, name, -5)
            self.found(PROGRAM + f"const {name} = 1;", name, len(NAMES))

    def test_the_first_of_two_that_have_the_name(self):
        for one in forms_named("sought"):
            for two in forms_named("sought"):
                self.found(one + two, "sought", 0)
                self.found("const A=1;" + one + two, "sought", 1)
                self.found("const A=sought;" + one + "const B=1;" + two + one, "sought", 1)

    def test_names_that_begin_alike_or_differ_in_one_letter(self):
        names = ("abc", "ab", "abcd", "a", "Abc", "aBc", "abC", "ABC", "abd", "xbc", "axc", "_abc", "abc_", "abc1", "abc2", "cba")
        words = "".join(f"const {name}=abcde+bc;" for name in names)
        for i, name in enumerate(names):
            self.found(words, name, i)
            self.found(words.replace(f"const {name}=", "const none="), name, -5)
        for name in ("b", "bc", "abcde", "A", "Ab", "abc3", "c", "none"):
            self.found(words, name, -5)

    def test_names_as_long_as_they_may_be(self):
        longest = "a" * 31
        names = (longest + "a", longest + "b", longest, "_" * 32, "A" + longest, longest[:30])
        words = "".join(f"fn {name}(x)=1;" for name in names)
        for i, name in enumerate(names):
            self.found(words, name, i)
        self.found(words, longest + "c", -5)
        self.found(words, "b" + longest, -5)
        self.found(words, "a" * 29, -5)


class NoNames(Find):
    def test_kept_words_numbers_signs(self):
        for name in KEPT_WORDS + SIGNS + ["0", "1", "2", "0x1", "8", "01", "A=", "1 + other", "fn f"]:
            self.found(PROGRAM, name, -5)

    def test_nothing(self):
        for words in ("", PROGRAM, "// n", "const A=1;"):
            self.found(words, "", -5)

    def test_bytes_that_are_no_word(self):
        for name in (" A", "A ", "A\n", "\nA", "A//", " ", "\n", "//", "A\x00", "\x00", "\x00A", "\xc1", "\xff" * 32, "A;", "(f)",
                     "const A", "nod(", "1A", "$", "\t"):
            self.found(PROGRAM, name, -5)

    def test_no_declarations(self):
        for words in ("", " ", "\n", "//", "// const A = 1;", " \n// const A = 1;\n \n"):
            for name in ("A", "", "const", "1", "a" * 32):
                self.found(words, name, -5)

    def test_names_in_notes(self):
        self.found("const A=1;// const B=2;\nconst C=3;", "B", -5)
        self.found("const A=1;// const B=2;\nconst C=3;", "C", 1)
        self.found("const // B\nA=1;", "B", -5)
        self.found("const // B\nA=1;", "A", 0)


class Refusals(Find):
    def test_long_names(self):
        for words in (PROGRAM, "", "const " + "a" * 32 + "=1;") + NO_PROGRAMS:
            for many in (33, 34, 64, 99, 100):
                for byte in ("a", "A", "1", " ", "$", "\x00", "\xff"):
                    self.found(words, byte * many, -1)

    def test_no_programs_texts(self):
        for words in NO_PROGRAMS:
            self.assertEqual(judge(text(words))[0], -2)
            for name in ("A", "B", "", "a" * 32, "const", "$", "\xff" * 32):
                self.found(words, name, -2)

    def test_no_program_behind_the_declaration(self):
        self.found("const A=1;const B", "A", -2)
        self.found("const A=1;x", "A", -2)
        self.found("const A=1;$", "B", -2)

    def test_texts_that_are_too_long(self):
        self.assertEqual(find([36] * 1048577, text("A")), [-1])
        self.assertEqual(find(text("const A=1;") + [32] * 1048567, text("A")), [-1])
        self.assertEqual(find([36] * 1048577, [65] * 33), [-1])
        self.assertEqual(find([36] * 1048576, text("A")), [-2])
        self.assertEqual(find(text("const A=1;") + [32] * 1048566, text("A")), [0])
        self.assertEqual(find(text("const A=1;") + [32] * 1048566, text("B")), [-5])


class Promises(Find):
    def test_e3_find_and_decl_agree(self):
        t = text(PROGRAM + PROGRAM)
        for i in range(2 * len(NAMES)):
            answer = decl(i, t)
            name = t[answer[4]:answer[4] + answer[5]]
            self.assertEqual(bytes(name).decode(), NAMES[i % len(NAMES)])
            self.assertEqual(find(t, name), [i % len(NAMES)])

    def test_e4_hexadecimal_counts_for_nothing(self):
        words = in_hexadecimal(words_of(PROGRAM))
        for i, name in enumerate(NAMES):
            self.found(tight(words), name, i)

    def test_e5_one_text_behind_another(self):
        other = "fn g(a) = 1; const A = 2; const Y = 3;\n"
        for name, first, last in (("A", 0, 1), ("Z", 5, 8), ("g", 6, 0), ("Y", 8, 2), ("gra", 4, 7), ("X", -5, -5)):
            self.found(PROGRAM + other, name, first)
            self.found(other + PROGRAM, name, last)


class Calls(unittest.TestCase):
    TEXTS = (PROGRAM, "const A=1;", "", "const", "$")
    SOUGHT = ("A", "Z", "", "held", "a" * 32, "a" * 33)

    def test_what_is_handed_in_stays_as_it_was_and_nothing_is_kept(self):
        texts = [text(one) for one in self.TEXTS]
        names = [text(one) for one in self.SOUGHT]
        first = [find(t, s) for t in texts for s in names]
        self.assertEqual([find(t, s) for t in texts for s in names], first)
        self.assertEqual([find(t, s) for t in reversed(texts) for s in reversed(names)], first[::-1])
        self.assertEqual(texts, [text(one) for one in self.TEXTS])
        self.assertEqual(names, [text(one) for one in self.SOUGHT])

    def test_one_list_handed_in_twice(self):
        t = text("const A=1;")
        self.assertEqual(find(t, t), [-5])
        self.assertEqual(t, text("const A=1;"))
        t = text("const")
        self.assertEqual(find(t, t), [-2])

    def test_answers_are_the_callers_own_lists_of_whole_numbers(self):
        for one in self.TEXTS:
            for name in self.SOUGHT:
                answer = find(text(one), text(name))
                self.assertIs(answer.__class__, list)
                self.assertEqual(len(answer), 1)
                self.assertIs(answer[0].__class__, int)
                answer.append(7)
                self.assertNotEqual(find(text(one), text(name)), answer)


if __name__ == "__main__":
    unittest.main()
