"""The written form: what stands between tokens and in which line, numbers, refusals."""

import unittest

from rilltexts.programs import judge
from rilltexts.programs import same
from rilltexts.programs import tokens
from rilltexts.programs import write
from tests.helper import FILLERS
from tests.helper import filled_with
from tests.helper import text
from tests.helper import tight
from tests.helper import words_of
from tests.helper import written

CODES = ("u8", "s8", "u16", "s16", "u32", "s32", "u64", "s64")
OPERATORS = "|| && < <= == != > >= | ^ & << >> + - * / %".split()

DECLARATIONS = (
    "const A = 1;\n",
    "const _ = a;\n",
    "table T: s16 = [1];\n",
    "table T: u8 = [1, a, -2, f(3), a ? b : c, sum i < 3: a, (a + b) * c];\n",
    "fn f(a) = a;\n",
    "fn f(a, b, c) = a + b;\n",
    "node n(x: s16) -> (y: s16) {\n}\n",
    "node n(x: s16, b: u8) -> (y: s16, c: u8, d: u8) {\n}\n",
    "node n(x: s16) -> (y: s16) {\n  state s: u8 = 0;\n}\n",
    "node n(x: s16) -> (y: s16) {\n  y = x[0];\n}\n",
    "node n(x: s16) -> (y: s16) {\n  state s: u8 = 0;\n  state r: s64[4] = row i < 4: 0;\n  let a = s + 1;\n"
    "  y = a;\n  y[0] = a;\n  s[a + 1] = b ? c : d;\n}\n",
    "graph g(x: s16 at 8) -> (y: s16 at 8) {\n}\n",
    "graph g(x: s16 at 8, b: u8 at R) -> (y: s16 at 8, c: u8 at (R + 1)) {\n  y = x;\n}\n",
    "graph g(x: s16 at 8) -> (y: s16 at 8) {\n  a = f(x);\n  a, b = f(x, y);\n  a, b, c = f(x, y, z);\n"
    "  c = delay 2(0)(a);\n  y = c;\n}\n",
)

KINDS = tuple(code + size for code in CODES for size in ("", "[3]", "[n]", "[3, 4]", "[a + 1, -b]", "[a ? b : c, (a + 1) * 2]"))
SIZES = ("0", "12", "n", "(a + 1)", "(-1)", "(f(a))", "(a[0])", "(a@1)", "(a ? b : c)", "(sum i < 3: i)", "(abs(a))",
         "((a + 1) * 2)")

# An e in each of its forms, but for the operators.
ES = (
    "0", "9223372036854775807", "a", "f(a)", "f(a, 1, -b)", "f((a + b) * c)",
    "round(a, b)", "abs(a)", "min(a, b)", "max(a, b)", "held s16(a)", "wrapped u8(a + 1)",
    "a[0]", "a[0, 1]", "a[0][1, 2][3]", "a@1", "a@n", "a@(n + 1)", "a@1@n[0]@(-1)[1, 2]", "f(a)[0]", "7[0]", "7@1",
    "(a + b)[0]", "(a + b)@1", "abs(a)[1]", "held u8(a)@1",
    "-a", "~a", "!a", "--a", "-~!!~-a", "-1", "-(a + b)", "~(a ? b : c)", "-a[0]", "-a@1", "-f(a)", "(-a)[0]", "(-a)@1",
    "!abs(a)", "~held s16(a)",
    "a - -b", "a - --b", "-a - b", "a & ~b", "!a && !b", "a == -1", "a != !b",
    "a ? b : c", "a ? b : c ? d : e", "a ? b ? c : d : e", "(a ? b : c) ? d : e", "a || b ? -c : ~d",
    "a ? (b + c) * d : (e + f)[0]",
    "sum i < 3: a", "row i < n: a[i]", "sum i < (n + 1): -a", "sheet i, j < 3, 4: a", "sheet i, j < n, (m + 1): a[i, j]",
    "sum i < 3: (a + b) * c", "sum i < 3: a + b", "sum i < 3: sum j < 4: a", "sum i < 3: a ? b : c",
    "a ? sum i < 3: b : row i < 3: c", "a ? sum i < 3: b ? c : d : e", "(sum i < 3: a) + b", "b + (sum i < 3: a)",
    "held s16(sum i < 3: a)", "f(sum i < 3: a, row i < 4: b)", "a[sum i < 3: b, c ? d : e]",
)


def around_e(e):
    """The declarations in which an e stands at each of its places outside of other es."""
    return (
        f"const A = {e};\n", f"table T: u8 = [{e}];\n", f"table T: u8 = [0, {e}, {e}];\n", f"fn f(a) = {e};\n",
        f"node n(x: u8[{e}]) -> (y: u8[1, {e}]) {{\n  state s: u8[{e}, 1] = {e};\n  let a = {e};\n  y = {e};\n"
        f"  y[{e}] = {e};\n}}\n",
        f"graph g(x: u8[{e}] at 8) -> (y: u8[1, {e}] at 8) {{\n  y = delay 2({e})(x);\n}}\n",
    )


def around_size(size):
    return (
        f"node n(x: u8 / {size}) -> (y: u8[3] / {size}, z: s16 / {size}) {{\n}}\n",
        f"graph g(x: u8 at {size}) -> (y: u8[3] at {size} / {size}, z: u8 at 1 / {size}) {{\n"
        f"  y = delay {size}(0)(x);\n}}\n",
        f"const A = a@{size};\n", f"const A = -a@{size}@{size}[1] + a[0]@{size};\n", f"const A = f(a)@{size};\n",
        f"const A = sum i < {size}: a;\n", f"const A = row i < {size}: -a;\n",
        f"const A = sheet i, j < {size}, {size}: (a + b) * c;\n", f"const A = sum i < {size}: sum j < {size}: a;\n",
    )


def around_kind(kind):
    return (
        f"node n(x: {kind}, b: {kind} / 2) -> (y: {kind}, c: {kind} / (n + 1)) {{\n  state s: {kind} = 0;\n}}\n",
        f"graph g(x: {kind} at 8, b: {kind} at 8 / 2) -> (y: {kind} at n, c: {kind} at 8 / n) {{\n}}\n",
    )


class Written(unittest.TestCase):
    def written_so(self, form):
        """The form is written from itself, from a text with as little, and from ones with as much as may be between
        its tokens."""
        words = words_of(form)
        answer = written(form)
        texts = [form, tight(words), " ".join(words)]
        for filler in FILLERS:
            texts.append(filler + filled_with(filler, words) + filler)
        # Right behind a / a note would begin with that.
        words = [word + " " if word == "/" else word for word in words]
        mixed = ""
        for place, word in enumerate(words):
            mixed += FILLERS[place % len(FILLERS)] + word
        texts.append(mixed + " // the end")
        for one in texts:
            self.assertEqual(write(text(one)), answer, one)


class Runs(Written):
    def test_the_documents_run(self):
        for one, form in (
                ("const A = 1 + 2 * 3;", "const A = 1 + 2 * 3;\n"),
                ("const  A=(1)+((2*3)) ; // n", "const A = 1 + 2 * 3;\n"),
                ("const B = (1 + 2) * -(3 - 4);", "const B = (1 + 2) * -(3 - 4);\n"),
                ("node n(x : s16/2)->(y:s16){y=held s16(x[0]-x[1]);}",
                 "node n(x: s16 / 2) -> (y: s16) {\n  y = held s16(x[0] - x[1]);\n}\n"),
                ("graph g(a: u8 at 8) -> (b: u8 at 8) { c = delay 2(0)(a); b = c; }",
                 "graph g(a: u8 at 8) -> (b: u8 at 8) {\n  c = delay 2(0)(a);\n  b = c;\n}\n")):
            self.assertEqual(write(text(one)), written(form), one)
            self.written_so(form)

    def test_wrong_would_be(self):
        for one, form in (
                ("a-b-c", "a - b - c"), ("(a-b)-c", "a - b - c"), ("a-(b-c)", "a - (b - c)"),
                ("-a@1", "-a@1"), ("(-a)@1", "(-a)@1"), ("-(a@1)", "-a@1"),
                ("sum i<3:a+b", "sum i < 3: a + b"), ("(sum i<3:a)+b", "(sum i < 3: a) + b"),
                ("sum i<3:(a+b)", "sum i < 3: a + b"), ("b+(sum i<3:a)", "b + (sum i < 3: a)"),
                ("(a?b:c)+d", "(a ? b : c) + d"), ("a?b:(c+d)", "a ? b : c + d"), ("-(a+b)", "-(a + b)"),
                ("a<<b", "a << b"), ("a<(b<c)", "a < (b < c)")):
            self.assertEqual(write(text(f"const A={one};")), written(f"const A = {form};\n"), one)

    def test_a_notes_end_is_not_taken_with_it(self):
        self.assertEqual(write(text("const//\nA=1//\n;")), written("const A = 1;\n"))
        self.assertEqual(write(text("const//A=2;\nB=1;//const C=3;\nconst D=4;//")),
                         written("const B = 1;\nconst D = 4;\n"))
        self.assertEqual(write(text("constA//\n=1;")), [-2])

    def test_nothing(self):
        for one in ("", " ", "\n", "\n \n", "//", "// const A = 1;", "//\n"):
            self.assertEqual(write(text(one)), [0], one)


class Forms(Written):
    def test_declarations(self):
        for form in DECLARATIONS:
            self.written_so(form)

    def test_declarations_behind_one_another(self):
        self.written_so("".join(DECLARATIONS))
        self.written_so("".join(reversed(DECLARATIONS)))
        for one in DECLARATIONS:
            for other in DECLARATIONS:
                self.assertEqual(write(text(tight(words_of(one)) + tight(words_of(other)))), written(one + other))

    def test_es(self):
        for e in ES:
            self.written_so(f"const A = {e};\n")

    def test_es_at_every_place(self):
        for e in ("1", "a", "-a", "a[0]", "a@1", "a + b", "(a + b) * c", "a < b", "a ? b : c", "sum i < 3: a", "f(a, b)",
                  "sheet i, j < 3, 4: a", "(a ? b : c)[0]", "held s64(a)"):
            for form in around_e(e):
                self.written_so(form)

    def test_es_within_es(self):
        for e in ES:
            for form in (f"f({e})", f"f(a, {e}, b)", f"round({e}, {e})", f"abs({e})", f"min({e}, {e})",
                         f"max({e}, {e})", f"a[{e}]", f"a[{e}, {e}]", f"held s16({e})", f"wrapped s16({e})",
                         f"a ? {e} : {e}", f"sum i < 3: {e}", f"row i < n: {e}", f"sheet i, j < 3, (n + 1): {e}"):
                self.assertEqual(write(text(tight(words_of(f"const A = {form};")))), written(f"const A = {form};\n"))

    def test_operators(self):
        for sign in OPERATORS:
            self.written_so(f"const A = a {sign} b;\n")
            self.written_so(f"const A = -a {sign} -1;\n")
            self.written_so(f"const A = f(a) {sign} (b ? c : d);\n")

    def test_codes(self):
        for code in CODES:
            self.written_so(f"table T: {code} = [1, 2];\n")
            self.written_so(f"const A = held {code}(a) + wrapped {code}((a + b) * c);\n")

    def test_kinds(self):
        for kind in KINDS:
            for form in around_kind(kind):
                self.assertEqual(write(text(form)), written(form))
                self.assertEqual(write(text(tight(words_of(form)))), written(form))
        for form in around_kind("s16[a + 1, -b]"):
            self.written_so(form)

    def test_sizes(self):
        for size in SIZES:
            for form in around_size(size):
                self.written_so(form)

    def test_lines_of_many_states_dos_and_wires(self):
        lines = ["  state s: u8 = 0;\n"] * 256 + ["  let a = 1;\n", "  y = a;\n"] * 128
        self.written_so("node n(x: u8) -> (y: u8) {\n" + "".join(lines) + "}\nconst A = 1;\n")
        self.written_so("graph g(x: u8 at 1) -> (y: u8 at 1) {\n" + "  y = x;\n" * 256 + "}\nfn f(a) = 1;\n")

    def test_kept_words_within_names(self):
        self.written_so("const sums = delayed + at_ + u9 + s160 + row1 + Sum + abs_(a) + round2(b) + mins[1];\n")
        self.written_so("const " + "a" * 32 + " = " + "_" * 32 + ";\n")


class Numbers(unittest.TestCase):
    def test_numbers_in_decimal(self):
        for one, number in (("0", "0"), ("0x0", "0"), ("1", "1"), ("0x1", "1"), ("0xA", "10"), ("0xF", "15"), ("0x10", "16"),
                            ("0xFF", "255"), ("0x100", "256"), ("0x1234", "4660"), ("0x5678", "22136"),
                            ("0x9ABC", "39612"), ("0xDEF0", "57072"), ("1234567890", "1234567890"),
                            ("9223372036854775807", "9223372036854775807"),
                            ("0x7FFFFFFFFFFFFFFF", "9223372036854775807"),
                            ("0x7FFFFFFFFFFFFFFE", "9223372036854775806"), ("9223372036854775806", "9223372036854775806"),
                            ("0x1000000000000000", "1152921504606846976"), ("1000000000000000000", "1000000000000000000")):
            self.assertEqual(write(text(f"const A={one};")), written(f"const A = {number};\n"), one)
            self.assertEqual(write(text(f"const A=-a[({one})]@(({one}))+{one};")),
                             written(f"const A = -a[{number}]@{number} + {number};\n"), one)
            self.assertEqual(write(text(f"graph g(x:u8 at {one})->(y:u8 at({one})/{one}){{y=delay {one}({one})(x);}}")),
                             written(f"graph g(x: u8 at {number}) -> (y: u8 at {number} / {number}) {{\n"
                                     f"  y = delay {number}({number})(x);\n}}\n"), one)

    def test_every_hexadecimal_of_up_to_three_digits(self):
        for number in range(0, 4096, 7):
            self.assertEqual(write(text(f"const A=0x{number:X};")), written(f"const A = {number};\n"))

    def test_numbers_that_are_none(self):
        for one in ("9223372036854775808", "0x8000000000000000", "0x0F", "00", "01", "0x", "0xf", "1a"):
            self.assertEqual(write(text(f"const A={one};")), [-2], one)


class Refusals(unittest.TestCase):
    def test_no_programs_texts(self):
        for one in ("x", "const", "const A", "const A =", "const A = 1", "const = 1;", "const A = 01;", "const A = $;",
                    "const A = a < b < c;", "const held = 1;", "table T : s16 = [];", "const A = 1;;", "}", "\x00", "\t",
                    "const A = b + sum i < 3 : a;", "node n(x : s16 / 2 + 1) -> (y : s16) {}", "const A = (1;",
                    "const A = 1;\r\n", "const A = " + "(" * 43 + "1" + ")" * 43 + ";", "const A = " + "-" * 127 + "1;",
                    "const " + "a" * 33 + " = 1;", "const A=1;" * 4097, "fn f(" + "a," * 256 + "a) = 1;",
                    "const A = 1; const", "const A = 1; $", "const A = (f)(x);", "const A = a@-1;", "const A = a ? b;"):
            self.assertEqual(write(text(one)), [-2], one[:40])
            self.assertEqual(judge(text(one))[0], -2, one[:40])

    def test_texts_that_are_too_long(self):
        self.assertEqual(write([32] * 1048577), [-1])
        self.assertEqual(write([36] * 1048577), [-1])
        self.assertEqual(write([36] * 1048576), [-2])
        self.assertEqual(write(text("const A=1;") + [32] * 1048566), written("const A = 1;\n"))
        self.assertEqual(write(text("const A=1;") + [32] * 1048567), [-1])

    def test_a_form_longer_than_a_text_may_be(self):
        one = "graph g(x:u8 at 1)->(y:u8 at 1){" + "y=x;" * 256 + "}"
        form = "graph g(x: u8 at 1) -> (y: u8 at 1) {\n" + "  y = x;\n" * 256 + "}\n"
        answer = write(text(one * 450))
        self.assertEqual(answer[0], 1054800)
        self.assertEqual(bytes(answer[1:]), form.encode() * 450)
        self.assertEqual(write(answer[1:]), [-1])


class Calls(unittest.TestCase):
    def test_what_is_handed_in_stays_as_it_was(self):
        for one in ("const  A=(1)+((0x2*3)) ; // n", "const", "", "const A = $;", "node n(x:u8)->(y:u8){y=(x)[0];}"):
            t = text(one)
            s = text(one)
            first = (write(t), same(t, s))
            self.assertEqual((t, s), (text(one), text(one)))
            self.assertEqual((write(t), same(t, s)), first)
            self.assertEqual((t, s), (text(one), text(one)))

    def test_one_answer_does_not_hang_on_another(self):
        t = text("const A = -(a ? b : c);")
        answer = write(t)
        answer.append(7)
        answer[0] = 9
        self.assertEqual(write(t), written("const A = -(a ? b : c);\n"))
        write(text("const B = ("))
        self.assertEqual(write(t), written("const A = -(a ? b : c);\n"))
        self.assertEqual(write(t), write(t))

    def test_answers_are_lists_of_whole_numbers(self):
        t = text("const A = 0x1F;")
        for answer in (write(t), write([]), write([36]), same(t, t), same(t, []), same([36], t)):
            self.assertIs(answer.__class__, list)
            for number in answer:
                self.assertIs(number.__class__, int)

    def test_the_form_has_the_texts_tokens(self):
        for one in DECLARATIONS:
            t = text(tight(words_of(one)))
            form = write(t)[1:]
            self.assertEqual(judge(form), judge(t))
            self.assertEqual(tokens(form)[0], tokens(t)[0])


if __name__ == "__main__":
    unittest.main()
