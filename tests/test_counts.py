"""How many there may be of a list: fault 4."""

import unittest

from rilltexts.programs import judge
from tests.helper import text

NODE = "node n(x:u8)->(y:u8){"
GRAPH = "graph g(x:u8 at 1)->(y:u8 at 1){"

# A list: what is ahead of it, one of it, what stands between two, what is behind the list.
LISTS = (
    ("fn f(", "a", ",", ")=1;"),
    ("node n(", "x:u8/2", " , ", ")->(y:u8){}"),
    ("node n(x:u8)->(", "y:u8[1,2]", ",", "){}"),
    ("graph g(", "x:u8 at 1", ",", ")->(y:u8 at 1){}"),
    ("graph g(x:u8 at 1)->(", "y:u8 at 1/2", ",\n", "){}"),
    (NODE, "state s:u8=0;", "", "}"),
    (NODE, "state s:u8=0;", "//\n", "let a=1;y=a;}"),
    (NODE, "let a=1;", "", "}"),
    (NODE, "y=1;", "", "}"),
    (NODE, "y[0]=1;", " ", "}"),
    (NODE + "state s:u8=0;" * 256, "y=1;", "", "}"),
    (GRAPH, "y=x;", "", "}"),
    (GRAPH, "a,b=f(c,d);", "", "}"),
    (GRAPH, "y=delay 1(0)(x);", "", "}"),
    (GRAPH, "a", ",", "=f(x);}"),
    (GRAPH + "a=f(", "x", ",", ");}"),
    (GRAPH + "a,b=f(", "x", ",", ");}"),
    ("const A=f(", "1", ",", ");"),
    ("const A=f(", "(sum i<3:1)+2", ",", ")[0];"),
    ("const A=(f(", "-a", ",", "));"),
)


class Counts(unittest.TestCase):
    def judged(self, words, answer):
        self.assertEqual(judge(text(words)), answer)

    def test_the_256th_and_the_257th(self):
        for ahead, one, between, behind in LISTS:
            for many in (1, 2, 255, 256):
                self.judged(ahead + between.join([one] * many) + behind, [1])
            for many in (257, 258, 600):
                place = len(ahead) + 256 * len(one + between)
                self.judged(ahead + between.join([one] * many) + behind, [-2, 4, place])

    def test_the_257th_at_its_first_token_alone(self):
        for ahead, one, between, behind in LISTS:
            front = ahead + (one + between) * 256
            self.judged(front + one[:1 if one[0] != "s" and one[0] != "l" else one.index(" ")], [-2, 4, len(front)])

    def test_what_cannot_stand_or_is_no_token_is_told_ahead_of_it(self):
        for ahead, one, between, behind in LISTS:
            front = ahead + (one + between) * 256
            self.judged(front + "$", [-2, 1, len(front)])
            self.judged(front + "*", [-2, 2, len(front)])
            self.judged(front, [-2, 2, len(front)])

    def test_a_comma_behind_the_256th_is_no_fault_by_itself(self):
        self.judged("fn f(" + "a," * 256, [-2, 2, 5 + 512])
        self.judged("fn f(" + "a," * 256 + " ", [-2, 2, 5 + 513])

    def test_each_list_is_counted_by_itself(self):
        names = ",".join(["a"] * 256)
        ports = ",".join(["x:u8"] * 256)
        ends = ",".join(["x:u8 at 1"] * 256)
        self.judged(f"node n({ports})->({ports})" + "{" + "state s:u8=0;" * 256 + "let a=1;y=a;" * 128 + "}", [1])
        self.judged(f"graph g({ends})->({ends})" + "{" + f"{names}=f({names});" * 40 + "}", [1])
        self.judged(f"const A=f({names})+f({names})+g(f({names}),f({names}));", [1])
        self.judged(NODE + "let a=1;y=a;" * 128 + "y=1;}", [-2, 4, len(NODE) + 12 * 128])
        self.judged(GRAPH + "y=x;y=f(x);" * 128 + "y=x;}", [-2, 4, len(GRAPH) + 11 * 128])

    def test_lists_that_are_not_counted(self):
        self.judged("const A=1" + "+1" * 5000 + ";", [1])
        self.judged("const A=a" + "[1]" * 5000 + "@1" * 5000 + ";", [1])
        self.judged("const A=1" + "&&1<2" * 3000 + ";", [1])

    def test_the_257th_state_behind_a_do_cannot_stand(self):
        front = NODE + "state s:u8=0;" * 256 + "y=1;"
        self.judged(front + "state s:u8=0;}", [-2, 2, len(front)])

    def test_declarations(self):
        for one in ("const A=1;", "table T:u8=[1];", "fn f(a)=a;"):
            self.judged(one * 4095, [4095])
            self.judged(one * 4096, [4096])
            self.judged(one * 4096 + "// n", [4096])
            self.judged(one * 4097, [-2, 4, 4096 * len(one)])
            self.judged(one * 4096 + "const", [-2, 4, 4096 * len(one)])
            self.judged(one * 4096 + "x", [-2, 2, 4096 * len(one)])
            self.judged(one * 4096 + ";", [-2, 2, 4096 * len(one)])
            self.judged(one * 4096 + "$", [-2, 1, 4096 * len(one)])
        self.judged("const A=1;" * 4095 + GRAPH + "}" + NODE + "}", [-2, 4, 40950 + len(GRAPH) + 1])

    def test_a_tables_numbers(self):
        head = "table T:u8=["
        self.judged(head + "1," * 300 + "1];", [1])
        self.judged(head + "1," * 65535 + "1];", [1])
        self.judged(head + "1," * 65536 + "1];", [-2, 4, len(head) + 2 * 65536])
        self.judged(head + "1," * 65536 + "];", [-2, 2, len(head) + 2 * 65536])


if __name__ == "__main__":
    unittest.main()
