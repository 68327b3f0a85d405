"""Call 1, judge: the document's run, what would be wrong, the faults and which of them is told."""

import unittest

from rilltexts.programs import judge
from rilltexts.programs import tokens
from tests.helper import KEPT_WORDS
from tests.helper import text

NODE = "node n(x : s16/2)->(y:s16){y=held s16(x[0]-x[1]);}"
GRAPH = "graph g(a: u8 at 8) -> (b: u8 at 8) { c = delay 2(0)(a); b = c; }"


class Judged(unittest.TestCase):
    def judged(self, rows):
        for words, answer in rows:
            self.assertEqual(judge(text(words)), answer, words)


class ARun(Judged):
    def test_programs(self):
        self.judged((
            ("const A = 1 + 2 * 3;", [1]),
            ("const A = 1 + 2 * 3;\n", [1]),
            ("const  A=(1)+((2*3)) ; // n", [1]),
            ("const B = (1 + 2) * -(3 - 4);", [1]),
            (NODE, [1]),
            ("node n(x: s16 / 2) -> (y: s16) {\n  y = held s16(x[0] - x[1]);\n}\n", [1]),
            (GRAPH, [1]),
            ("", [0]),
        ))

    def test_faults(self):
        self.judged((
            ("const = 1;", [-2, 2, 6]),
            ("const A = 1", [-2, 2, 11]),
            ("const A = 01;", [-2, 1, 10]),
            ("const A = a < b < c;", [-2, 2, 16]),
            ("const held = 1;", [-2, 2, 6]),
            ("table T : s16 = [];", [-2, 2, 17]),
            ("const A = $;", [-2, 1, 10]),
        ))


class WrongWouldBe(Judged):
    def test_comparisons_do_not_follow_one_another(self):
        for first in ("<", "<=", "==", "!=", ">", ">="):
            for other in ("<", "<=", "==", "!=", ">", ">="):
                place = 10 + len("a  b ") + len(first)
                self.judged((
                    (f"const A = a {first} b {other} c;", [-2, 2, place]),
                    (f"const A = a {first} (b {other} c);", [1]),
                    (f"const A = (a {first} b) {other} c;", [1]),
                    (f"const A = a {first} b && b {other} c;", [1]),
                    (f"const A = a {first} b || b {other} c;", [1]),
                    (f"const A = a {first} b ? b {other} c : b {other} c;", [1]),
                    (f"const A = a {first} b + 1 {other} c;", [-2, 2, place + 4]),
                ))

    def test_operators_follow_one_another(self):
        for sign in ("||", "&&", "|", "^", "&", "<<", ">>", "+", "-", "*", "/", "%"):
            self.judged((
                (f"const A = a {sign} b {sign} c;", [1]),
                (f"const A = a {sign} b * c {sign} d || e && f | g;", [1]),
                (f"const A = a {sign};", [-2, 2, 12 + len(sign)]),
            ))

    def test_signs_of_a_one_behind_an_atom(self):
        self.judged((("const A = -a@1;", [1]), ("const A = (-a)@1;", [1]), ("const A = -a@-1;", [-2, 2, 13])))

    def test_sums_reach_to_the_end_and_are_no_operands(self):
        self.judged((
            ("const A = sum i < 3 : a + b;", [1]),
            ("const A = sum i < 3 : a < b && c ? d : e;", [1]),
            ("const A = b + sum i < 3 : a;", [-2, 2, 14]),
            ("const A = b + (sum i < 3 : a);", [1]),
            ("const A = -sum i < 3 : a;", [-2, 2, 11]),
            ("const A = a && row i < 3 : a;", [-2, 2, 15]),
            ("const A = a < sheet i, j < 3, 4 : a;", [-2, 2, 14]),
            ("const A = sum i < 3 : row j < 4 : sheet k, l < 3, (a + b) : 1;", [1]),
            ("const A = a ? sum i < 3 : a : row i < 3 : a;", [1]),
            ("const A = sum i < 3 + 1 : a;", [-2, 2, 20]),
            ("const A = sum i < -3 : a;", [-2, 2, 18]),
            ("const A = sum i <= 3 : a;", [-2, 2, 16]),
            ("const A = f(sum i < 3 : a, row i < n : a)[sum i < 3 : 1];", [1]),
        ))

    def test_a_note_does_not_take_its_line_end(self):
        self.judged((("const// n\nA = 1;", [1]), ("constA = 1;", [-2, 2, 0]), ("const A// n\n= 1;// m", [1])))

    def test_large_numbers(self):
        self.judged((
            ("const A = 9223372036854775807;", [1]),
            ("const A = 9223372036854775808;", [-2, 1, 10]),
            ("const A = -9223372036854775808;", [-2, 1, 11]),
            ("const A = 0x0F;", [-2, 1, 10]),
        ))

    def test_kept_words_name_nothing(self):
        for word in KEPT_WORDS:
            self.judged((
                (f"const {word} = 1;", [-2, 2, 6]),
                (f"table {word} : u8 = [1];", [-2, 2, 6]),
                (f"fn {word}(a) = 1;", [-2, 2, 3]),
                (f"fn f({word}) = 1;", [-2, 2, 5]),
                (f"node {word}(", [-2, 2, 5]),
                (f"graph {word}(", [-2, 2, 6]),
                (f"node n({word}", [-2, 2, 7]),
                (f"graph g({word}", [-2, 2, 8]),
                (f"const A = sum {word} < 3 : 1;", [-2, 2, 14]),
                (f"const A = 1 + a @ {word};", [-2, 2, 18]),
            ))

    def test_shifts_are_one_sign(self):
        self.judged((
            ("const A = a << b << c;", [1]),
            ("const A = a < < b;", [-2, 2, 14]),
            ("const A = a > > b;", [-2, 2, 14]),
            ("const A = a >>= b;", [-2, 2, 14]),
            ("const A = a - > b;", [-2, 2, 14]),
            ("const A = a->b;", [-2, 2, 11]),
        ))

    def test_a_size_has_no_operator(self):
        self.judged((
            ("node n(x : s16 / 2 + 1) -> (y : s16) {}", [-2, 2, 19]),
            ("node n(x : s16 / G + 1) -> (y : s16) {}", [-2, 2, 19]),
            ("node n(x : s16 / (G + 1)) -> (y : s16) {}", [1]),
            ("node n(x : s16 / f(1)) -> (y : s16) {}", [-2, 2, 18]),
            ("node n(x : s16 / -1) -> (y : s16) {}", [-2, 2, 17]),
            ("graph g(a : u8 at 2 * 3) -> (b : u8 at 1) {}", [-2, 2, 20]),
            ("graph g(a : u8 at (2 * 3) / (1 + 1)) -> (b : u8 at 1 / 2) {}", [1]),
            ("graph g(a : u8 at 1 / 2 / 3) -> (b : u8 at 1) {}", [-2, 2, 24]),
        ))

    def test_places_are_where_the_token_begins(self):
        self.judged((
            ("const\n\n  held = 1;", [-2, 2, 9]),
            ("const A = 1 // n\n", [-2, 2, 17]),
            ("const A = 1 // n", [-2, 2, 16]),
            ("const A =\n wrapped2 wrapped;", [-2, 2, 20]),
            ("const A = 1;\n\n\n12a", [-2, 1, 15]),
        ))

    def test_a_name_of_33_bytes(self):
        self.judged((
            ("const " + "a" * 32 + " = 1;", [1]),
            ("const " + "a" * 33 + " = 1;", [-2, 1, 6]),
        ))


class WhichFault(Judged):
    def test_no_token_ahead_of_and_behind_what_cannot_stand(self):
        self.judged((
            ("const $ = ;", [-2, 1, 6]),
            ("const = $;", [-2, 2, 6]),
            ("const A = 1; ;$", [-2, 2, 13]),
            ("const A = 1;$;", [-2, 1, 12]),
            ("const A = 1;\x00", [-2, 1, 12]),
            ("$", [-2, 1, 0]),
            ("; $", [-2, 2, 0]),
            ("const A = 1 2 $", [-2, 2, 12]),
            ("const A = a $ 2", [-2, 1, 12]),
            ("graph g(a: u8 at 1) -> (b: u8 at 1) { b = a $", [-2, 1, 44]),
            ("graph g(a: u8 at 1) -> (b: u8 at 1) { b = a, $", [-2, 2, 43]),
        ))

    def test_two_kinds_at_one_token(self):
        deep = "const A = " + "(" * 43
        self.judged((
            (deep + "1", [-2, 3, 53]), (deep + ")", [-2, 2, 53]), (deep + "$", [-2, 1, 53]), (deep, [-2, 2, 53]),
            (deep + "01", [-2, 1, 53]), (deep + "sum", [-2, 3, 53]), (deep + " // n", [-2, 2, 58]),
        ))
        many = "const A = f(" + "a," * 256
        place = len(many)
        self.judged((
            (many + "a", [-2, 4, place]), (many + ")", [-2, 2, place]), (many + "`", [-2, 1, place]),
            (many, [-2, 2, place]), (many + "at", [-2, 2, place]), (many + "sum", [-2, 4, place]),
        ))

    def test_a_fault_of_any_kind_hides_what_is_behind(self):
        deep = "const A = " + "(" * 43 + "1"
        many = "fn f(" + "a," * 256 + "a"
        self.judged((
            (deep + "$", [-2, 3, 53]), (deep + " 1", [-2, 3, 53]), (many + "$", [-2, 4, len(many) - 1]),
            ("const A = 1 1;" + deep, [-2, 2, 12]), (many + ")=1;" + deep, [-2, 4, len(many) - 1]),
        ))

    def test_a_text_that_is_too_long(self):
        self.judged(((" " * 1048576, [0]), (" " * 1048577, [-1]), ("$" * 1048577, [-1])))


class Forms(Judged):
    def test_empty_bodies(self):
        self.judged((
            ("node n(x: u8) -> (y: u8) {}", [1]),
            ("graph g(x: u8 at 1) -> (y: u8 at 1) {}", [1]),
            ("node n() -> (y: u8) {}", [-2, 2, 7]),
            ("node n(x: u8) -> () {}", [-2, 2, 18]),
            ("fn f() = 1;", [-2, 2, 5]),
            ("const A = f();", [-2, 2, 12]),
            ("const A = ();", [-2, 2, 11]),
            ("const A = ;", [-2, 2, 10]),
            ("const A = a[];", [-2, 2, 12]),
            ("node n(x: u8[]) -> (y: u8) {}", [-2, 2, 13]),
            ("const A = 1;;", [-2, 2, 12]),
            (";", [-2, 2, 0]),
            ("{", [-2, 2, 0]),
        ))

    def test_states_stand_ahead_of_dos(self):
        head = "node n(x: u8) -> (y: u8) {"
        self.judged((
            (head + "state s: u8 = 0; state r: u8[2] = 0; let a = 1; y = a; y[0] = 1; let b = 2;}", [1]),
            (head + "y = 1; state s: u8 = 0;}", [-2, 2, len(head) + 7]),
            (head + "let a = 1; state s: u8 = 0;}", [-2, 2, len(head) + 11]),
            (head + "y[0, 1] = 1;}", [-2, 2, len(head) + 3]),
            (head + "y[0][1] = 1;}", [-2, 2, len(head) + 4]),
            (head + "let y[0] = 1;}", [-2, 2, len(head) + 5]),
            (head + "y = delay 1(0)(x);}", [-2, 2, len(head) + 4]),
        ))

    def test_wires(self):
        head = "graph g(a: u8 at 1) -> (b: u8 at 1) {"
        at = len(head)
        self.judged((
            (head + "b = a; b = f(a); b, c = f(a, d); b = delay 2(0)(a); b = delay n(1)(a); b = delay (1)(2)(a);}", [1]),
            (head + "b, c = a;}", [-2, 2, at + 8]),
            (head + "b, c = delay 2(0)(a);}", [-2, 2, at + 7]),
            (head + "b = 1;}", [-2, 2, at + 4]),
            (head + "b = f();}", [-2, 2, at + 6]),
            (head + "b = f(1);}", [-2, 2, at + 6]),
            (head + "b = f(a)(c);}", [-2, 2, at + 8]),
            (head + "b = a + c;}", [-2, 2, at + 6]),
            (head + "b = delay 2(0);}", [-2, 2, at + 14]),
            (head + "b = delay 2(0)(a, c);}", [-2, 2, at + 16]),
            (head + "b = delay -2(0)(a);}", [-2, 2, at + 10]),
            (head + "b[0] = a;}", [-2, 2, at + 1]),
            (head + "let b = a;}", [-2, 2, at]),
            (head + "state b: u8 = 0;}", [-2, 2, at]),
        ))

    def test_ports_and_ends(self):
        self.judged((
            ("node n(x: u8 at 1) -> (y: u8) {}", [-2, 2, 13]),
            ("graph g(x: u8) -> (y: u8 at 1) {}", [-2, 2, 13]),
            ("graph g(x: u8 / 2) -> (y: u8 at 1) {}", [-2, 2, 14]),
            ("graph g(x: u8[1, a + 1] at (1) / n) -> (y: s64[(2)] at 1) {}", [1]),
            ("node n(x: u8[1, 2, 3]) -> (y: u8) {}", [-2, 2, 17]),
            ("node n(x: u8[1][2]) -> (y: u8) {}", [-2, 2, 15]),
            ("table T : u8[2] = [1];", [-2, 2, 12]),
            ("table T : x = [1];", [-2, 2, 10]),
            ("table T : u8 = [1, 2, sum i < 3 : 1, a ? b : c];", [1]),
            ("table T : u8 = [1, ];", [-2, 2, 19]),
        ))

    def test_atoms(self):
        self.judged((
            ("const A = a[1][2, 3]@4@n@(5 + 6)[7];", [1]),
            ("const A = 1[2] + (3)[4] + f(5)[6] + abs(7)@8;", [1]),
            ("const A = a@b(c);", [-2, 2, 13]),
            ("const A = (a)(b);", [-2, 2, 13]),
            ("const A = f(a)(b);", [-2, 2, 14]),
            ("const A = 1(b);", [-2, 2, 11]),
            ("const A = a[1, 2, 3];", [-2, 2, 16]),
            ("const A = held(1);", [-2, 2, 14]),
            ("const A = held x(1);", [-2, 2, 15]),
            ("const A = wrapped u8(1, 2);", [-2, 2, 22]),
            ("const A = round(1);", [-2, 2, 17]),
            ("const A = round(1, 2, 3);", [-2, 2, 20]),
            ("const A = abs(1, 2);", [-2, 2, 15]),
            ("const A = min(1);", [-2, 2, 15]),
            ("const A = max(1, 2, 3);", [-2, 2, 18]),
            ("const A = min 1;", [-2, 2, 14]),
            ("const A = +1;", [-2, 2, 10]),
            ("const A = 1 ! 2;", [-2, 2, 12]),
            ("const A = - ~ ! -1 - -1;", [1]),
            ("const A = u8(1);", [-2, 2, 10]),
        ))

    def test_choices(self):
        self.judged((
            ("const A = a ? b : c ? d : e;", [1]),
            ("const A = a ? b ? c : d : e;", [1]),
            ("const A = a ? b;", [-2, 2, 15]),
            ("const A = a ? b : c : d;", [-2, 2, 20]),
            ("const A = a : b;", [-2, 2, 12]),
            ("const A = (a ? b : c) + d;", [1]),
        ))


class Promises(Judged):
    programs = ("", "// n\n", "const A = 1;", "const A = 0xFF;table T:u8=[1,2];", "fn f(a, b) = a;\n", NODE, GRAPH, NODE + GRAPH)

    def test_e4_notes_and_blanks_and_hexadecimal_count_for_nothing(self):
        words = "node n ( x : s16 / 255 ) -> ( y : s16 [ 16 ] ) { y [ 10 ] = held s16 ( x [ 0 ] - x @ 1 ) ; }".split()
        for gap in (" ", "\n", "\n\n  ", " // note const ; $\n", "\n//\n"):
            self.assertEqual(judge(text(gap.join(words))), [1])
            self.assertEqual(judge(text(gap + gap.join(words) + gap)), [1])
            self.assertEqual(judge(text(gap.join(words[:-1]))), [-2, 2, len(gap.join(words[:-1]))])
        changed = [hex(int(word)).upper().replace("X", "x") if word.isdigit() else word for word in words]
        self.assertNotEqual(changed, words)
        self.assertEqual(judge(text(" ".join(changed))), [1])

    def test_e5_one_text_behind_another_has_both_ones_declarations(self):
        for first in self.programs:
            for other in self.programs:
                both = judge(text(first + other))
                self.assertEqual(both, [judge(text(first))[0] + judge(text(other))[0]], first + other)

    def test_what_is_handed_in_stays_and_nothing_is_kept(self):
        texts = [text(words) for words in self.programs + ("const A = $;", "const", "const A = 01;")]
        before = [list(one) for one in texts]
        first = [(judge(one), tokens(one)) for one in texts]
        again = [(judge(one), tokens(one)) for one in reversed(texts)]
        self.assertEqual(texts, before)
        self.assertEqual(first, again[::-1])

    def test_an_answer_is_the_callers_own(self):
        tokens(text("a b")).append(7)
        judge(text("a b")).append(7)
        self.assertEqual(tokens(text("a b")), [2, 0, 1, 0, 0, 2, 1, 0, 0])
        self.assertEqual(judge(text("a b")), [-2, 2, 0])

    def test_answers_are_lists_of_whole_numbers(self):
        for words in self.programs + ("const", "$", "a"):
            for answer in (judge(text(words)), tokens(text(words))):
                self.assertIs(type(answer), list)
                self.assertEqual([one for one in answer if type(one) is not int], [])


if __name__ == "__main__":
    unittest.main()
