"""Call 5, decl: what a declaration is, where it stands, and where its name."""

import unittest

from rilltexts.programs import decl
from rilltexts.programs import judge
from rilltexts.programs import tokens
from rilltexts.programs import write
from tests.helper import DECLARATION_WORDS
from tests.helper import FILLERS
from tests.helper import filled_with
from tests.helper import in_hexadecimal
from tests.helper import text
from tests.helper import tight
from tests.helper import words_of

# Each of the five forms, short and long, in the order of their numbers.
FORMS = (
    ("const A = 1;", "const Abc = sum i < (n + 1): a[i] - (b - c) ? d : e;"),
    ("table T: s16 = [1];", "table T_2: u8 = [1, a, -2, f(3), a ? b : c, (a + b) * c];"),
    ("fn f(a) = a;", "fn f1(a, b, c) = a + b[c];"),
    ("node n(x: s16) -> (y: s16) { }",
     "node nnn(x: s16 / 2, b: u8[3]) -> (y: s16) { state s: u8 = 0; let a = s; y = held s16(x[0] - a); }"),
    ("graph g(x: u8 at 8) -> (y: u8 at 8) { }",
     "graph _(x: u8 at 8 / 2) -> (y: u8 at (n + 1)) { a, b = f(x); c = delay 2(0)(a); y = c; }"),
)
ALL_FORMS = [(what, form) for what, forms in enumerate(FORMS) for form in forms]
NO_PROGRAMS = ("x", "const", "const A = 1", "const A = 01;", "$", "const A = 1; $", "const A = a < b < c;", "const A = 1;;",
               "const A = " + "(" * 43 + "1" + ")" * 43 + ";", "const A=1;" * 4097, "const held = 1;", "\t")
NUMBERS = (0, 1, 2, 4095, 4096, 4097, 4294967294, 4294967295)


def told(what, first, laid_out):
    """What `decl` answers of a declaration that begins there; what stands between its word and its name is found
    from the text behind the word, without the program's own tokens."""
    at = len(DECLARATION_WORDS[what])
    while laid_out[at] in " \n/":
        at = laid_out.index("\n", at) + 1 if laid_out[at] == "/" else at + 1
    name_end = at
    while laid_out[name_end].isalnum() or laid_out[name_end] == "_":
        name_end += 1
    return [0, what, first, len(laid_out), first + at, name_end - at]


class Decl(unittest.TestCase):
    def declared(self, pieces):
        """The text of the pieces (a text that's no declaration's, or what a declaration is and its text) has just
        these declarations."""
        t = text("".join(piece if isinstance(piece, str) else piece[1] for piece in pieces))
        i = 0
        at = 0
        for piece in pieces:
            if isinstance(piece, str):
                at += len(piece)
            else:
                self.assertEqual(decl(i, t), told(piece[0], at, piece[1]), (i, pieces))
                at += len(piece[1])
                i += 1
        for more in (i, i + 1, 4294967295):
            self.assertEqual(decl(more, t), [-4], pieces)
        self.assertEqual(judge(t), [i])


class Examples(Decl):
    def test_the_documents(self):
        self.assertEqual(decl(0, text("const A=1;")), [0, 0, 0, 10, 6, 1])
        self.assertEqual(decl(1, text("const A=1;")), [-4])

    def test_each_form_by_hand(self):
        t = text(" const A=1;table  Tab:u8=[1];\nfn f(a)=a; node//\nn_1(x:u8)->(y:u8){y=x;} // }\n"
                 "graph g(x:u8 at 1)->(y:u8 at 1){y=x;}//;\n")
        self.assertEqual([decl(i, t) for i in range(6)], [
            [0, 0, 1, 10, 7, 1], [0, 1, 11, 18, 18, 3], [0, 2, 30, 10, 33, 1], [0, 3, 41, 30, 48, 3],
            [0, 4, 77, 37, 83, 1], [-4]])

    def test_told_by_hand_is_told_by_the_tests_own_words(self):
        self.assertEqual(told(0, 0, "const A=1;"), [0, 0, 0, 10, 6, 1])
        self.assertEqual(told(3, 7, "node //x y\n nm(x:u8)->(y:u8){}"), [0, 3, 7, 30, 19, 2])

    def test_ends_with_a_brace_and_with_a_semicolon(self):
        self.declared([(3, "node n(x:u8)->(y:u8){y=1;}"), (0, "const A=1;")])
        self.declared([(3, "node n(x:u8)->(y:u8){y=1; }"), " ", (4, "graph g(x:u8 at 1)->(y:u8 at 1){ //;\n}"), "\n"])
        self.declared([(0, "const A=1 ;"), (1, "table T:u8=[1]//\n;"), (2, "fn f(a)=a\n\n;"), " // ;"])


class Forms(Decl):
    def test_alone(self):
        for what, form in ALL_FORMS:
            self.declared([(what, form)])
            self.declared([(what, tight(words_of(form)))])
            self.declared(["// n\n ", (what, form), " // n"])

    def test_first_middle_and_last_with_what_must_stand_alone(self):
        for what, form in ALL_FORMS:
            one = (what, tight(words_of(form)))
            for other, others in ALL_FORMS:
                two = (other, tight(words_of(others)))
                self.declared([one, two])
                self.declared([two, one, two])
                self.declared([two, one])

    def test_blanks_and_notes_everywhere(self):
        for filler in FILLERS:
            laid_out = [(what, filled_with(filler, words_of(form))) for what, form in ALL_FORMS]
            for place, one in enumerate(laid_out):
                other = laid_out[place - 3]
                self.declared([filler, one, filler])
                self.declared([filler, one, filler, other, filler, one, filler])
                self.declared([one, filler * 3, other, filler * 2, one])
            pieces = [filler]
            for one in laid_out:
                pieces.extend([one, filler])
            self.declared(pieces)

    def test_blanks_and_notes_at_one_place_alone(self):
        for what, form in ALL_FORMS:
            words = words_of(form)
            for filler in (" ", "\n", " // note ; }\n", "//\n"):
                for at in range(1, len(words)):
                    # Right behind a / a note would begin with that.
                    gap = " " + filler if words[at - 1] == "/" else filler
                    laid_out = tight(words[:at]) + gap + tight(words[at:])
                    self.declared([(0, "const B=2;"), (what, laid_out), (0, "const B=2;")])

    def test_names(self):
        for name in ("a", "_", "A1_", "consts", "table2", "Fn", "x" * 31, "y" * 32, "_" * 32, "u9", "const_"):
            for what, form in enumerate((f"const {name}=1;", f"table {name}:u8=[1];", f"fn {name}(a)=1;",
                                         f"node {name}(x:u8)->(y:u8){{}}", f"graph {name}(x:u8 at 1)->(y:u8 at 1){{}}")):
                self.declared([" ", (what, form), (what, form), "\n"])
                self.assertEqual(decl(0, text(form))[5], len(name))


class Numbers(unittest.TestCase):
    def test_no_declarations(self):
        for one in ("", " ", "\n", "//", "// const A = 1;", " \n// const A = 1;\n \n", "//\n//\n"):
            for i in NUMBERS:
                self.assertEqual(decl(i, text(one)), [-4], one)

    def test_the_last_and_one_more(self):
        for many in (1, 2, 3, 100, 4095, 4096):
            t = text("const A=1;" * many)
            self.assertEqual(decl(0, t), [0, 0, 0, 10, 6, 1])
            self.assertEqual(decl(many - 1, t), [0, 0, 10 * many - 10, 10, 10 * many - 4, 1])
            self.assertEqual(decl(many, t), [-4])
            self.assertEqual(decl(many + 1, t), [-4])
            self.assertEqual(decl(4294967295, t), [-4])


class Refusals(unittest.TestCase):
    def test_no_programs_texts(self):
        for one in NO_PROGRAMS:
            self.assertEqual(judge(text(one))[0], -2)
            for i in NUMBERS:
                self.assertEqual(decl(i, text(one)), [-2], one[:40])

    def test_no_program_behind_declarations(self):
        for one in ("const A=1;const", "const A=1;x", "const A=1;const B=2; fn f()=1;"):
            for i in NUMBERS:
                self.assertEqual(decl(i, text(one)), [-2], one)

    def test_texts_that_are_too_long(self):
        for i in NUMBERS:
            self.assertEqual(decl(i, [36] * 1048577), [-1])
            self.assertEqual(decl(i, text("const A=1;") + [32] * 1048567), [-1])
        self.assertEqual(decl(0, [36] * 1048576), [-2])
        self.assertEqual(decl(0, [32] * 1048566 + text("const A=1;")), [0, 0, 1048566, 10, 1048572, 1])
        self.assertEqual(decl(1, [32] * 1048566 + text("const A=1;")), [-4])


class Promises(unittest.TestCase):
    PROGRAM = "".join(form + "\n" for what, form in ALL_FORMS)

    def test_e3_declarations_stand_where_tokens_do(self):
        for filler in FILLERS:
            t = text(filler + filled_with(filler, words_of(self.PROGRAM)) + filler)
            answer = tokens(t)
            firsts = answer[1::4]
            ends = [first + length for first, length in zip(firsts, answer[2::4])]
            behind = 0
            for i, (what, form) in enumerate(ALL_FORMS):
                told_so = decl(i, t)
                place = firsts.index(told_so[2])
                self.assertGreaterEqual(told_so[2], behind)
                behind = told_so[2] + told_so[3]
                self.assertEqual(firsts.index(told_so[4]), place + 1)
                self.assertIn(behind, ends)
                self.assertEqual(ends.index(behind) - place + 1, len(words_of(form)))
                self.assertEqual(t[told_so[2]:][:5][:len(DECLARATION_WORDS[what])], text(DECLARATION_WORDS[what]))

    def test_e4_notes_blanks_and_hexadecimal_count_for_nothing(self):
        words = words_of(self.PROGRAM)
        hexadecimal = in_hexadecimal(words)
        for one in [tight(words), tight(hexadecimal)] + [filled_with(filler, words) for filler in FILLERS]:
            t = text(one)
            form = write(t)[1:]
            for i in range(len(ALL_FORMS)):
                told_so = decl(i, t)
                others = decl(i, form)
                self.assertEqual(told_so[:2], others[:2])
                self.assertEqual(t[told_so[4]:][:told_so[5]], form[others[4]:][:others[5]])
                # Each declaration by itself is the program that it was within the text.
                alone = t[told_so[2]:told_so[2] + told_so[3]]
                self.assertEqual(write(alone)[1:], form[others[2]:others[2] + others[3]] + [10])

    def test_e5_one_text_behind_another_has_both_ones_declarations(self):
        for what, form in ALL_FORMS:
            for other, others in ALL_FORMS:
                one = text(" " + form + "// n\n")
                two = text("\n" + others + others)
                moved = [decl(0, one)]
                for i in range(2):
                    answer = decl(i, two)
                    moved.append([0, answer[1], answer[2] + len(one), answer[3], answer[4] + len(one), answer[5]])
                self.assertEqual([decl(i, one + two) for i in range(4)], moved + [[-4]])


class Calls(unittest.TestCase):
    TEXTS = ("const A=1;", " fn f(a)=(0x1); // n", "", "const", "$", "node n(x:u8)->(y:u8){y=(x)[0];}const B=2;")

    def test_what_is_handed_in_stays_as_it_was_and_nothing_is_kept(self):
        texts = [text(one) for one in self.TEXTS]
        first = [decl(i, t) for t in texts for i in (0, 1, 2)]
        self.assertEqual(texts, [text(one) for one in self.TEXTS])
        self.assertEqual([decl(i, t) for t in texts for i in (0, 1, 2)], first)
        self.assertEqual([decl(i, t) for t in reversed(texts) for i in (2, 1, 0)], first[::-1])
        self.assertEqual(texts, [text(one) for one in self.TEXTS])

    def test_answers_are_the_callers_own_lists_of_whole_numbers(self):
        for one in self.TEXTS:
            answer = decl(0, text(one))
            self.assertIs(answer.__class__, list)
            for number in answer:
                self.assertIs(number.__class__, int)
            answer.append(7)
            answer[0] = 9
            self.assertNotEqual(decl(0, text(one)), answer)


if __name__ == "__main__":
    unittest.main()
