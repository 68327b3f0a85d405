"""Whether two texts have the same tree."""

import unittest

from rilltexts.programs import same
from rilltexts.programs import write
from tests.helper import in_hexadecimal
from tests.helper import slow_tree
from tests.helper import spaced
from tests.helper import text
from tests.helper import tight
from tests.helper import words_of

PROGRAM = """const A = 1 + 2 * 3;
table T: s16 = [1, -2, a ? b : c];
fn f(a, b) = sum i < (a + 1): b[i] - (a - b);
node n(x: s16 / 2, z: u8[3]) -> (y: s16) {
  state s: u8[3, 4] = 0;
  let a = x[0] - x[1];
  y[0] = held s16(a)@1 + min(a, b);
}
graph g(a: u8 at 8) -> (b: u8 at 8 / 2) {
  d, e = n(a, b);
  c = delay 2(0)(a);
  b = c;
}
"""

# Trees that differ, each written in ways that count for nothing.
TREES = (
    ("",),
    ("const A=1;", "const A = 1 ;", "const A=0x1;", "const A=(1);", "const A=((0x1));", "//n\nconst//n\nA=1;//n"),
    ("const A=2;", "const A=0x2;"),
    ("const A=a;", "const A=(a);"),
    ("const A=b;",),
    ("const B=1;",),
    ("const a=1;",),
    ("const A=16;", "const A=0x10;", "const A=(0x10) ;"),
    ("const A=9223372036854775807;", "const A=0x7FFFFFFFFFFFFFFF;"),
    ("const A=9223372036854775806;", "const A=0x7FFFFFFFFFFFFFFE;"),
    ("const A=a-b-c;", "const A=(a-b)-c;", "const A=((a)-(b))-(c);", "const A=(a-b-c);"),
    ("const A=a-(b-c);", "const A=(a)-((b-c));"),
    ("const A=a-b+c;", "const A=(a-b)+c;"),
    ("const A=a-(b+c);",),
    ("const A=a+b*c;", "const A=a+(b*c);"),
    ("const A=(a+b)*c;",),
    ("const A=a<b;",), ("const A=a<=b;",), ("const A=a<<b;",), ("const A=a>b;",), ("const A=b<a;",),
    ("const A=(a<b)<c;",), ("const A=a<(b<c);",),
    ("const A=-a@1;", "const A=-(a@1);", "const A=-a@(1);"),
    ("const A=(-a)@1;",),
    ("const A=-a;", "const A=-(a);"), ("const A=~a;",), ("const A=!a;",), ("const A=--a;", "const A=-(-a);"),
    ("const A=a[1];", "const A=(a)[1];"), ("const A=a@1;",), ("const A=a[1,1];",), ("const A=a[1][1];", "const A=(a[1])[1];"),
    ("const A=f(a);", "const A=f((a));"), ("const A=f(a,a);",), ("const A=g(a);",), ("const A=abs(a);",),
    ("const A=min(a,b);",), ("const A=max(a,b);",), ("const A=round(a,b);",),
    ("const A=held s16(a);",), ("const A=wrapped s16(a);",), ("const A=held u16(a);",),
    ("const A=a?b:c;", "const A=(a)?(b):(c);"), ("const A=a?c:b;",),
    ("const A=a?b:c?d:e;", "const A=a?b:(c?d:e);"), ("const A=(a?b:c)?d:e;",), ("const A=a?b?c:d:e;", "const A=a?(b?c:d):e;"),
    ("const A=(a?b:c)+d;",), ("const A=a?b:c+d;", "const A=a?b:(c+d);"), ("const A=-(a+b);",), ("const A=-a+b;", "const A=(-a)+b;"),
    ("const A=sum i<3:a+b;", "const A=sum i<3:(a+b);", "const A=(sum i<(3):a+b);"), ("const A=(sum i<3:a)+b;",),
    ("const A=row i<3:a+b;",), ("const A=sum j<3:a+b;",), ("const A=sum i<4:a+b;",), ("const A=sheet i,j<3,3:a+b;",),
    ("fn A(a)=a;",), ("fn A(a,b)=a;",), ("fn A(b)=a;",),
    ("table A:u8=[1];", "table A:u8=[(0x1)];"), ("table A:s8=[1];",), ("table A:u8=[1,1];",),
    ("node n(x:u8)->(y:u8){}", "node n ( x : u8 ) -> ( y : u8 ) { }"), ("node n(x:u8/1)->(y:u8){}", "node n(x:u8/(1))->(y:u8){}"),
    ("node n(x:u8)->(y:u8/1){}",), ("node n(x:u8[1])->(y:u8){}",), ("node n(x:u8)->(y:u8,z:u8){}",), ("node n(x:u8,y:u8)->(z:u8){}",),
    ("node n(x:u8)->(y:u8){y=1;}",), ("node n(x:u8)->(y:u8){let y=1;}",), ("node n(x:u8)->(y:u8){state y:u8=1;}",),
    ("node n(x:u8)->(y:u8){y=1;y=2;}",), ("node n(x:u8)->(y:u8){y=2;y=1;}",), ("node n(x:u8)->(y:u8){y[0]=1;}",),
    ("graph g(x:u8 at 1)->(y:u8 at 1){}", "graph g(x:u8 at(0x1))->(y:u8 at((1))){}"), ("graph g(x:u8 at 1/1)->(y:u8 at 1){}",),
    ("graph g(x:u8 at 1)->(y:u8 at 1){y=x;}",), ("graph g(x:u8 at 1)->(y:u8 at 1){y=x(x);}",),
    ("graph g(x:u8 at 1)->(y:u8 at 1){y,x=x(x);}",), ("graph g(x:u8 at 1)->(y:u8 at 1){y=x(x,x);}",),
    ("graph g(x:u8 at 1)->(y:u8 at 1){y=delay 1(0)(x);}", "graph g(x:u8 at 1)->(y:u8 at 1){y=delay(1)((0))(x);}"),
    ("graph g(x:u8 at 1)->(y:u8 at 1){y=delay 2(0)(x);}",), ("graph g(x:u8 at 1)->(y:u8 at 1){y=delay 1(1)(x);}",),
    ("const A=1;const B=2;", "const A=1;//\n\nconst B=(2);"), ("const B=2;const A=1;",), ("const A=1;const A=1;",),
)
NO_PROGRAMS = ("const", "const A=01;", "$", "const A=a<b<c;", "const A=" + "(" * 43 + "1" + ")" * 43 + ";", "const A=1;" * 4097)


class Same(unittest.TestCase):
    def test_trees(self):
        for place, ways in enumerate(TREES):
            for other, others in enumerate(TREES):
                for way in ways:
                    for one in others:
                        self.assertEqual(same(text(way), text(one)), [1 if place == other else 0], (way, one))

    def test_the_slow_readings_trees(self):
        trees = [[slow_tree(words_of(way)) for way in ways if "//" not in way] for ways in TREES]
        for ways in trees:
            for tree in ways:
                self.assertEqual(tree, ways[0])
        for place, ways in enumerate(trees):
            self.assertNotIn(ways[0], [others[0] for others in trees[:place]])

    def test_a_text_and_its_written_form(self):
        for one in [PROGRAM, tight(words_of(PROGRAM))] + [way for ways in TREES for way in ways]:
            t = text(one)
            form = write(t)[1:]
            self.assertEqual(same(t, form), [1])
            self.assertEqual(same(form, t), [1])
            self.assertEqual(write(form)[1:], form)

    def test_blanks_notes_and_hexadecimal(self):
        words = words_of(PROGRAM)
        hexadecimal = in_hexadecimal(words)
        for one in (tight(words), " ".join(words), "\n".join(words), " // n\n".join(words), tight(hexadecimal),
                    "// n" + PROGRAM.replace("const", "\nconst") + "// n", PROGRAM.replace("\n", "// a\n")):
            self.assertEqual(same(text(PROGRAM), text(one)), [1], one)

    def test_another_token_at_each_place(self):
        words = words_of(PROGRAM)
        t = text(PROGRAM)
        others = {"+": "-", "-": "+", "*": "/", "u8": "s8", "s16": "u16", "held": "wrapped", "min": "max"}
        changed = 0
        for place, word in enumerate(words):
            other = others.get(word)
            if word == "-" and words[place - 1] == ",":
                other = "~"
            elif word.isdigit():
                other = str(int(word) + 1)
            elif word.isalpha() and len(word) == 1:
                other = "q"
            if other is not None:
                changed += 1
                s = spaced(words[:place] + [other] + words[place + 1:])[0]
                self.assertEqual((same(t, s), same(s, t)), ([0], [0]), (place, word))
        self.assertGreater(changed, 60)

    def test_needed_and_needless_parentheses(self):
        t = text("const A = a - (b - c) * -(d + e);")
        for one, answer in (("a-(b-c)*-(d+e)", 1), ("a-((b-c)*-(d+e))", 1), ("((a)-(((b)-c)*(-((d+e)))))", 1),
                            ("a-b-c*-(d+e)", 0), ("a-(b-c)*-d+e", 0), ("(a-(b-c))*-(d+e)", 0), ("a-(b-c*-(d+e))", 0)):
            self.assertEqual(same(t, text(f"const A={one};")), [answer], one)

    def test_the_order_of_declarations(self):
        one, other, third = "const A=1;", "fn f(a)=a;", "node n(x:u8)->(y:u8){y=x;}"
        t = text(one + other + third)
        for s, answer in ((one + other + third, 1), (one + third + other, 0), (other + one + third, 0), (third + other + one, 0),
                          (one + other, 0), (other + third, 0), (one + other + third + one, 0), ("", 0)):
            self.assertEqual(same(t, text(s)), [answer], s)

    def test_one_text_behind_another(self):
        programs = ["", "// n\n", "const A = 0x1;", "fn f(a,b)=(a);\n", "node n(x:u8)->(y:u8){y=(x);}", PROGRAM]
        for one in programs:
            for other in programs:
                form = write(text(one))[1:] + write(text(other))[1:]
                self.assertEqual(write(text(one + other)), [len(form)] + form)
                self.assertEqual(same(text(one + other), form), [1])


class Refusals(unittest.TestCase):
    def test_no_programs_texts(self):
        right = text("const A=1;")
        for one in NO_PROGRAMS:
            self.assertEqual(same(text(one), right), [-2])
            self.assertEqual(same(right, text(one)), [-2])
            self.assertEqual(same(text(one), text(one)), [-2])
            self.assertEqual(same(text(one), []), [-2])
            self.assertEqual(same([], text(one)), [-2])
            self.assertEqual(same(text(one), text(NO_PROGRAMS[0])), [-2])

    def test_nothing(self):
        self.assertEqual(same([], []), [1])
        self.assertEqual(same([], text(" \n// n")), [1])
        self.assertEqual(same([], text("const A=1;")), [0])
        self.assertEqual(same(text("const A=1;"), []), [0])

    def test_texts_that_are_too_long(self):
        long = [36] * 1048577
        for other in ([], text("const A=1;"), text("const"), long):
            self.assertEqual(same(long, other), [-1])
            self.assertEqual(same(other, long), [-1])
        self.assertEqual(same([32] * 1048576, []), [1])
        self.assertEqual(same([], [36] * 1048576), [-2])
        self.assertEqual(same([36] * 1048576, []), [-2])


if __name__ == "__main__":
    unittest.main()
