"""Texts of 100000 bytes."""

import unittest

from rilltexts.programs import classes
from rilltexts.programs import decl
from rilltexts.programs import find
from rilltexts.programs import judge
from rilltexts.programs import part
from rilltexts.programs import same
from rilltexts.programs import tokens
from rilltexts.programs import write
from tests.helper import text
from tests.helper import tight
from tests.helper import words_of
from tests.helper import written

LENGTH = 100000


def filled(words):
    """The text with blanks behind it, so that it has just 100000 bytes."""
    return text(words + " " * (LENGTH - len(words)))


class Long(unittest.TestCase):
    def test_many_declarations(self):
        t = filled("const Abcdefghij = 1 + 2;" * 3999)
        self.assertEqual(judge(t), [3999])
        self.assertEqual(tokens(t)[0], 3999 * 7)
        t = filled("const A=f(12345678,2345);" * 4000)
        self.assertEqual(judge(t), [4000])

    def test_a_long_row_of_operators(self):
        for sign in ("-", "%", "|"):
            t = filled("const A=1" + (sign + "1") * 49995 + ";")
            self.assertEqual(judge(t), [1], sign)
            self.assertEqual(tokens(t)[0], 4 + 2 * 49995 + 1, sign)
        for sign in (">>", "&&"):
            self.assertEqual(judge(filled("const A=1" + (sign + "a") * 33330 + ";")), [1], sign)
        self.assertEqual(judge(filled("const A=1" + "+1" * 49990 + "<1<1;")), [-2, 2, 9 + 2 * 49990 + 2])

    def test_a_long_row_behind_an_atom(self):
        self.assertEqual(judge(filled("const A=a" + "@1" * 49995 + ";")), [1])
        self.assertEqual(judge(filled("const A=a" + "[1]" * 33330 + ";")), [1])

    def test_a_long_table(self):
        t = filled("table T:u8=[1" + ",2" * 49992 + "];")
        self.assertEqual(judge(t), [1])
        self.assertEqual(tokens(t)[0], 7 + 2 * 49992 + 2)
        self.assertEqual(judge(filled("table T:u8=[1" + ",2" * 49992 + ",]")), [-2, 2, 13 + 2 * 49992 + 1])

    def test_a_long_note(self):
        t = text("//" + "x" * (LENGTH - 2))
        self.assertEqual((judge(t), tokens(t)), ([0], [0]))
        t = text("//" + "/" * (LENGTH - 3) + "\n")
        self.assertEqual((judge(t), tokens(t)), ([0], [0]))
        t = text("const A=1;//" + "$" * (LENGTH - 12))
        self.assertEqual((judge(t), tokens(t)[0]), ([1], 5))
        t = text("//\n" * 33333 + "$")
        self.assertEqual((judge(t), tokens(t)), ([-2, 1, 99999], [-2, 1, 99999]))

    def test_long_runs(self):
        for sign in ("a", "1", "0", "_"):
            t = text(sign * LENGTH)
            self.assertEqual((judge(t), tokens(t)), ([-2, 1, 0], [-2, 1, 0]), sign)
        t = text("0x" + "F" * (LENGTH - 2))
        self.assertEqual((judge(t), tokens(t)), ([-2, 1, 0], [-2, 1, 0]))

    def test_deep_beginnings(self):
        for ahead, place in (("(", 51), ("-", 136), ("f(", 8 + 2 * 43), ("a[", 8 + 2 * 64), ("a?", 8 + 2 * 127),
                             ("abs(", 8 + 4 * 43)):
            self.assertEqual(judge(text("const A=" + ahead * ((LENGTH - 8) // len(ahead)))), [-2, 3, place], ahead)

    def test_many_tokens(self):
        self.assertEqual(tokens(text(";" * LENGTH))[0], LENGTH)
        self.assertEqual(judge(text(";" * LENGTH)), [-2, 2, 0])
        self.assertEqual(tokens(text("a " * 50000))[0], 50000)


class LongForms(unittest.TestCase):
    def written_so(self, words, form):
        t = filled(words)
        self.assertEqual(len(t), LENGTH)
        self.assertTrue(write(t) == written(form), words[:40])

    def test_many_declarations(self):
        self.written_so("const A=f(0xFF,(2),a[1]);" * 4000, "const A = f(255, 2, a[1]);\n" * 4000)

    def test_long_rows_of_operators(self):
        for sign in ("+", "*", "&", "||", "<<"):
            many = (LENGTH - 10) // (len(sign) + 1)
            self.written_so("const A=1" + (sign + "1") * many + ";", "const A = 1" + f" {sign} 1" * many + ";\n")

    def test_long_rows_of_operators_of_many_strengths(self):
        row = " || b && c < d | e ^ f & g << h + i * k"
        self.written_so("const A=a" + row.replace(" ", "") * 4000 + ";", "const A = a" + row * 4000 + ";\n")
        row = " * k + i << h & g ^ f | e < d && c || b"
        self.written_so("const A=a" + row.replace(" ", "") * 4000 + ";", "const A = a" + row * 4000 + ";\n")

    def test_long_rows_of_parentheses(self):
        self.written_so("const A=0" + "+(1)" * 24990 + ";", "const A = 0" + " + 1" * 24990 + ";\n")
        self.written_so("const A=0" + "+(1+a)" * 16660 + ";", "const A = 0" + " + (1 + a)" * 16660 + ";\n")
        self.written_so("const A=0" + "-((((b))))" * 9990 + ";", "const A = 0" + " - b" * 9990 + ";\n")

    def test_long_rows_behind_an_atom(self):
        self.written_so("const A=a" + "@1" * 49995 + ";", "const A = a" + "@1" * 49995 + ";\n")
        self.written_so("const A=(a+b)" + "[(1)]@(n)" * 11000 + ";", "const A = (a + b)" + "[1]@n" * 11000 + ";\n")

    def test_long_tables_and_lists(self):
        self.written_so("table T:u8=[1" + ",2" * 49990 + "];", "table T: u8 = [1" + ", 2" * 49990 + "];\n")
        self.written_so("table T:u8=[1" + ",-(2)" * 19990 + "];", "table T: u8 = [1" + ", -2" * 19990 + "];\n")
        call = "f(" + "a," * 255 + "a)"
        form = "f(" + "a, " * 255 + "a)"
        self.written_so("const A=1" + ("+" + call) * 190 + ";", "const A = 1" + (" + " + form) * 190 + ";\n")

    def test_many_lines(self):
        form = "node n(x: u8) -> (y: u8) {\n" + "  y = x;\n" * 256 + "}\n"
        self.written_so(tight(words_of(form)) * 94, form * 94)

    def test_deep_declarations(self):
        self.written_so(("const A=" + "(" * 42 + "1" + ")" * 42 + ";") * 1050, "const A = 1;\n" * 1050)
        self.written_so(("const A=" + "-" * 126 + "1;") * 730, ("const A = " + "-" * 126 + "1;\n") * 730)
        self.written_so(("const A=" + "a?b:" * 126 + "1;") * 190, ("const A = " + "a ? b : " * 126 + "1;\n") * 190)

    def test_long_notes(self):
        self.written_so("const//" + "x" * 99000 + "\nA=1;//", "const A = 1;\n")
        self.written_so("//\n" * 33000 + "const A=1;", "const A = 1;\n")
        self.assertEqual(write(text("//" + "x" * (LENGTH - 2))), [0])

    def test_wrong_at_the_end(self):
        self.assertEqual(write(filled("const A=1" + "+1" * 49990 + "<1<1;")), [-2])
        self.assertEqual(write(text("const A=1;" + " " * 99989 + "$")), [-2])

    def test_same(self):
        t = filled("const A=0" + "+(1)" * 24990 + ";")
        self.assertEqual(same(t, text("const A=0" + "+1" * 24990 + ";")), [1])
        self.assertEqual(same(t, filled("const A=0" + "+1" * 24989 + "+2;")), [0])
        self.assertEqual(same(t, filled("const A=0" + "+1" * 24989 + ";")), [0])
        t = filled("const A=a" + "@1" * 49995 + ";")
        self.assertEqual(same(t, filled("const A=a" + "@1" * 49994 + "@2;")), [0])
        self.assertEqual(same(t, t), [1])


class LongDeclarations(unittest.TestCase):
    def test_4096_declarations(self):
        names = [f"name_{i}" for i in range(4096)]
        words = "".join(f"const {name}=1;\n" for name in names)
        t = filled(words)
        self.assertEqual(judge(t), [4096])
        places = [0]
        for name in names:
            places.append(places[-1] + len(f"const {name}=1;\n"))
        for i in (0, 1, 9, 10, 2047, 4094, 4095):
            length = len(names[i])
            self.assertEqual(decl(i, t), [0, 0, places[i], 9 + length, places[i] + 6, length])
            self.assertEqual(find(t, text(names[i])), [i])
        self.assertEqual(decl(4096, t), [-4])
        self.assertEqual(decl(4294967295, t), [-4])
        self.assertEqual(find(t, text("name_4096")), [-5])
        self.assertEqual(find(t, text("name_")), [-5])

    def test_a_4097th(self):
        t = filled("const A=1;" * 4096 + "const B=1;")
        self.assertEqual((decl(0, t), decl(4096, t), find(t, text("A")), find(t, text("B"))), ([-2], [-2], [-2], [-2]))

    def test_many_of_each_form(self):
        forms = ("const A=1+2;", "table B:u8=[1,2,3];", "fn C(a,b,c)=a+b+c;", "node D(x:u8)->(y:u8){let a=x[0];y=a;}",
                 "graph E(x:u8 at 1)->(y:u8 at 1){y=delay 1(0)(x);}")
        whole = "".join(forms)
        t = text(whole * (LENGTH // len(whole)) + " " * (LENGTH % len(whole)))
        many = 5 * (LENGTH // len(whole))
        self.assertEqual((len(t), judge(t)), (LENGTH, [many]))
        for i in (0, 1, 2, 3, 4, many - 5, many - 4, many - 3, many - 2, many - 1):
            first = i // 5 * len(whole) + len("".join(forms[:i % 5]))
            form = forms[i % 5]
            self.assertEqual(decl(i, t), [0, i % 5, first, len(form), first + form.index(" ") + 1, 1])
        self.assertEqual(decl(many, t), [-4])
        self.assertEqual([find(t, text(name)) for name in "ABCDEF"], [[0], [1], [2], [3], [4], [-5]])

    def test_one_that_is_as_long_as_the_text(self):
        for what, words in ((0, "const A=1" + "+1" * 49990 + ";"), (1, "table A:u8=[1" + ",2" * 49990 + "];"),
                            (0, "const A=a" + "@1" * 49990 + ";"), (0, "const A=1;")):
            # The blanks stand within it, ahead of its last token.
            t = text(words[:-1] + " " * (LENGTH - len(words)) + ";")
            self.assertEqual(decl(0, t), [0, what, 0, LENGTH, 6, 1])
            self.assertEqual((decl(1, t), find(t, text("A")), find(t, text("a"))), ([-4], [0], [-5]))

    def test_a_long_note_ahead_of_a_name(self):
        t = text("const//" + "x" * (LENGTH - 12) + "\nA=1;")
        self.assertEqual(len(t), LENGTH)
        self.assertEqual(decl(0, t), [0, 0, 0, LENGTH, LENGTH - 4, 1])
        self.assertEqual((find(t, text("A")), find(t, text("x" * 32))), ([0], [-5]))

    def test_wrong_at_the_end(self):
        t = text("const A=1;" + " " * 99989 + "$")
        self.assertEqual((decl(0, t), decl(1, t), find(t, text("A")), find(t, text("B"))), ([-2], [-2], [-2], [-2]))


class LongParts(unittest.TestCase):
    def right_at(self, t, rows):
        self.assertEqual(len(t), LENGTH)
        for at, answer in rows:
            self.assertEqual(part(at, t), answer, at)

    def test_a_long_row_of_operators(self):
        many = 49995
        t = filled("const A=1" + "+1" * many + ";")
        rows = [(0, [0, 0, 0, 10 + 2 * many, 0]), (8, [0, 8, 8, 1, 1 + many]), (LENGTH - 1, [0, 0, 0, LENGTH, 0])]
        for k in (0, 30000, many - 1):
            rows.append((9 + 2 * k, [0, 5, 8, 3 + 2 * k, many - k]))
            rows.append((10 + 2 * k, [0, 8, 10 + 2 * k, 1, 1 + many - k]))
        self.right_at(t, rows)

    def test_a_long_row_of_operators_of_many_strengths(self):
        # Each b, c, d, e stands in the row of ||, then in its own ones of &&, <, +.
        many = 9090
        t = filled("const A=a" + "||b&&c<d+e" * many + ";")
        for k in (0, many - 1):
            first = 11 + 10 * k
            deep = 1 + many - k
            self.right_at(t, (
                (first - 1, [0, 5, 8, 11 + 10 * k, deep - 1]), (first, [0, 8, first, 1, deep + 1]), (first + 1, [0, 5, first, 8, deep]),
                (first + 3, [0, 8, first + 3, 1, deep + 2]), (first + 4, [0, 5, first + 3, 5, deep + 1]),
                (first + 5, [0, 8, first + 5, 1, deep + 3]), (first + 6, [0, 5, first + 5, 3, deep + 2])))

    def test_a_long_row_behind_an_atom(self):
        many = 49995
        t = filled("const A=a" + "@1" * many + ";")
        self.right_at(t, ((8, [0, 8, 8, 1, 1 + many]), (9, [0, 7, 8, 3, many]), (10, [0, 7, 8, 3, many]),
                          (9 + 2 * many - 1, [0, 7, 8, 1 + 2 * many, 1])))
        many = 33330
        t = filled("const A=a" + "[1]" * many + ";")
        self.right_at(t, ((8, [0, 8, 8, 1, 1 + many]), (9, [0, 7, 8, 4, many]), (10, [0, 8, 10, 1, 1 + many]),
                          (9 + 3 * many - 2, [0, 8, 9 + 3 * many - 2, 1, 2]), (9 + 3 * many - 1, [0, 7, 8, 1 + 3 * many, 1])))

    def test_a_long_table(self):
        t = filled("table T:u8=[1" + ",2" * 49990 + "];")
        whole = [0, 0, 0, 13 + 2 * 49990 + 2, 0]
        self.right_at(t, ((0, whole), (12, [0, 8, 12, 1, 1]), (13, whole), (14, [0, 8, 14, 1, 1]),
                          (99992, [0, 8, 99992, 1, 1]), (99993, whole), (99994, whole), (99995, [-5])))

    def test_many_declarations(self):
        t = text("const A=f(12345678,2345);" * 4000)
        for i in (0, 2000, 3999):
            at = 25 * i
            self.right_at(t, ((at, [0, 0, at, 25, 0]), (at + 8, [0, 7, at + 8, 16, 1]), (at + 10, [0, 8, at + 10, 8, 2]),
                              (at + 19, [0, 8, at + 19, 4, 2]), (at + 24, [0, 0, at, 25, 0])))
        self.right_at(t, ((LENGTH, [-5]), (4294967295, [-5])))

    def test_blanks_and_notes(self):
        t = text("const A=1//" + "x" * (LENGTH - 15) + "\n+2;")
        self.right_at(t, ((8, [0, 8, 8, 1, 2]), (9, [0, 5, 8, LENGTH - 9, 1]), (50000, [0, 5, 8, LENGTH - 9, 1]),
                          (LENGTH - 4, [0, 5, 8, LENGTH - 9, 1]), (LENGTH - 2, [0, 8, LENGTH - 2, 1, 2])))
        t = text("//" + "x" * (LENGTH - 2))
        self.right_at(t, ((0, [-5]), (50000, [-5]), (LENGTH - 1, [-5])))

    def test_wrong_at_the_end(self):
        self.right_at(text("const A=1;" + " " * 99989 + "$"), ((0, [-2]), (8, [-2]), (50, [-2]), (LENGTH, [-2])))


class LongForAllCalls(unittest.TestCase):
    """What holds of every long program's text, of each call."""

    TEXTS = (
        "const A=0" + "-(1-2)" * 16000 + ";", "const A=0" + "+(a?b:c+d)" * 9000 + ";",
        "table A:u8=[" + ",".join(["-(7)", "0xFF", "f(a,b)[c]"] * 4000) + "];",
        "fn A(a)=sum i<(3):" + "*".join(["(a+b)", "a@(1)", "~(-c)"] * 5000) + ";",
        ("node A(x:u8/(1+2))->(y:u8[3]){" + "state s:u8=(1);" * 100 + "let a=(x)[0];y[0]=(a);" * 100 + "}") * 20,
        ("graph A(x:u8 at 1)->(y:u8 at(2)/3){" + "a,b=f(x,y);y=delay(2)((0))(x);y=a;" * 85 + "}") * 30,
        ("const A=" + "(" * 42 + "1" + ")" * 42 + ";") * 1000, ("const A=" + "~" * 126 + "1;") * 700,
    )

    def test_each(self):
        for words in self.TEXTS:
            t = filled(words)
            self.assertEqual(len(t), LENGTH)
            before = list(t)
            many = judge(t)[0]
            form = write(t)[1:]
            self.assertGreater(many, 0, words[:40])
            self.assertEqual(judge(form), [many])
            self.assertEqual(same(t, form), [1])
            self.assertEqual(find(t, text("A")), [0])
            length = len(words) // many
            name = words.index("A")
            what = ("const", "table", "fn", "node", "graph").index(words.split()[0])
            first = (many - 1) * length
            self.assertEqual(decl(many - 1, t), [0, what, first, length, first + name, 1])
            self.assertEqual(decl(many, t), [-4])
            self.assertEqual(part(first, t), [0, 0, first, length, 0])
            self.assertEqual(part(first + length - 1, t), [0, 0, first, length, 0])
            self.assertEqual(part(len(words), t), [-5])
            self.assertEqual(tokens(t)[0], len(words_of(words)))
            self.assertEqual(len(classes(t)), LENGTH + 1)
            self.assertEqual(t, before)


if __name__ == "__main__":
    unittest.main()
