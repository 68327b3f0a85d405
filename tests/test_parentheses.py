"""Parentheses in the written form: the needed ones, and no others."""

import itertools
import unittest

from rilltexts.programs import judge
from rilltexts.programs import same
from rilltexts.programs import write
from tests.helper import slow_tree
from tests.helper import text
from tests.helper import tight
from tests.helper import without_needless
from tests.helper import words_of
from tests.helper import written

# From the weakest to the strongest.
OPERATORS = (("||",), ("&&",), ("<", "<=", "==", "!=", ">", ">="), ("|",), ("^",), ("&",), ("<<", ">>"), ("+", "-"),
             ("*", "/", "%"))
SIGNS = [(sign, strength) for strength, signs in enumerate(OPERATORS, 2) for sign in signs]
COMPARISON = 4

# What may stand in parentheses, and how strong it binds.
SUM, CHOICE, SIGNED, POST, WORD = 0, 1, 11, 12, 13
CONTENTS = [(f"d {sign} e", strength) for sign, strength in SIGNS] + [
    ("d - e - f", 9), ("d + e * f", 9), ("d < e && f", 3), ("d * e + f < g || h", 2), ("d << e + f", 8),
    ("sum k < 3: d", SUM), ("row k < n: d + e", SUM), ("sheet k, l < 3, (n + 1): d", SUM), ("sum k < 3: d ? e : f", SUM),
    ("d ? e : f", CHOICE), ("d || e ? f : g ? h : k", CHOICE), ("d ? e : sum k < 3: f", CHOICE),
    ("-d", SIGNED), ("~d", SIGNED), ("!d", SIGNED), ("--d", SIGNED), ("-d[0]", SIGNED), ("!(d + e)", SIGNED),
    ("d[0]", POST), ("d[0, 1]", POST), ("d@1", POST), ("d@(e + 1)", POST), ("(d + e)[0]", POST), ("(-d)@n", POST),
    ("f(d)", POST), ("f(d, e)", POST), ("held s16(d)", POST), ("wrapped u8(d)", POST), ("round(d, e)", POST),
    ("abs(d)", POST), ("min(d, e)", POST), ("max(d, e)", POST),
    ("7", WORD), ("d", WORD),
]

# Where something stands ({}), and how strong it must at least bind to stand there without parentheses.
PLACES = [("{} " + sign + " b", strength + (strength == COMPARISON)) for sign, strength in SIGNS]
PLACES += [("a " + sign + " {}", strength + 1) for sign, strength in SIGNS]
PLACES += [("a + {} * b", 10), ("a * {} + b", 11), ("a + {} - b", 10), ("a < {} + b", 9), ("a && {} < b", 5), ("a || {} && b", 3),
           ("a & {} << b + c", 8), ("-{} + a", SIGNED), ("a + -{}", SIGNED), ("a - {}[1]", POST)]
PLACES += [
    ("-{}", SIGNED), ("~{}", SIGNED), ("!{}", SIGNED), ("--{}", SIGNED), ("-~!{}", SIGNED),
    ("{}[1]", POST), ("{}[1, 2]", POST), ("{}@1", POST), ("{}@(n + 1)", POST), ("-{}[1]", POST), ("{}[1]@2[3]", POST),
    ("{} ? b : c", CHOICE + 1), ("{}", SUM), ("a ? {} : c", SUM), ("a ? b : {}", SUM), ("a ? b ? {} : c : d", SUM),
    ("a ? b : {} ? c : d", CHOICE + 1), ("a ? {} ? b : c : d", CHOICE + 1),
    ("sum i < 3: {}", SUM), ("row i < n: {}", SUM), ("sheet i, j < 3, 4: {}", SUM), ("sum i < 3: {} ? a : b", CHOICE + 1),
    ("sum i < {}: a", WORD), ("row i < {}: a", WORD), ("sheet i, j < {}, 4: a", WORD), ("sheet i, j < 3, {}: a", WORD),
    ("a@{}", WORD), ("a@{}@2", WORD), ("a@1@{}", WORD), ("-a@{}", WORD), ("a[0]@{}", WORD), ("f(a)@{}[1]", WORD),
    ("f({})", SUM), ("f({}, a)", SUM), ("f(a, {})", SUM), ("f(a, {}, b)", SUM), ("a[{}]", SUM), ("a[{}, 1]", SUM),
    ("a[1, {}]", SUM), ("a[1][{}]", SUM), ("held s16({})", SUM), ("wrapped u8({})", SUM), ("round({}, a)", SUM),
    ("round(a, {})", SUM), ("abs({})", SUM), ("min({}, a)", SUM), ("min(a, {})", SUM), ("max({}, a)", SUM), ("max(a, {})", SUM),
]
NODE = "node n(x: u8) -> (y: u8) {\n"
GRAPH = "graph g(x: u8 at 1) -> (y: u8 at 1) {\n"
WHOLE_PLACES = [("const A = " + place + ";\n", least) for place, least in PLACES] + [
    ("table T: u8 = [{}];\n", SUM), ("table T: u8 = [1, {}, 2];\n", SUM), ("fn f(a) = {};\n", SUM),
    ("node n(x: u8[{}]) -> (y: u8) {{\n}}\n", SUM), ("node n(x: u8) -> (y: u8[1, {}]) {{\n}}\n", SUM),
    ("node n(x: u8 / {}) -> (y: u8) {{\n}}\n", WORD), ("node n(x: u8) -> (y: u8[3] / {}, z: u8) {{\n}}\n", WORD),
    ("graph g(x: u8[{}] at 1) -> (y: u8 at 1) {{\n}}\n", SUM), ("graph g(x: u8 at {}) -> (y: u8 at 1) {{\n}}\n", WORD),
    ("graph g(x: u8 at 1 / {}) -> (y: u8 at 1) {{\n}}\n", WORD),
    ("graph g(x: u8 at 1) -> (y: u8[3, 4] at {} / 2, z: u8 at 1) {{\n}}\n", WORD),
    (NODE.replace("{", "{{") + "  state s: u8 = {};\n}}\n", SUM),
    (NODE.replace("{", "{{") + "  state s: u8[{}, 1] = 0;\n}}\n", SUM),
    (NODE.replace("{", "{{") + "  let a = {};\n  y = 1;\n}}\n", SUM),
    (NODE.replace("{", "{{") + "  y = {};\n}}\n", SUM),
    (NODE.replace("{", "{{") + "  y[{}] = 1;\n}}\n", SUM),
    (NODE.replace("{", "{{") + "  y[1] = {};\n}}\n", SUM),
    (GRAPH.replace("{", "{{") + "  y = delay {}(0)(x);\n}}\n", WORD),
    (GRAPH.replace("{", "{{") + "  y = delay 1({})(x);\n}}\n", SUM),
    (GRAPH.replace("{", "{{") + "  y = delay (n + 1)({})(x);\n}}\n", SUM),
]


def bare(words):
    return tight(words_of(words))


def in_const(e):
    return text(f"const A={e};")


class Parentheses(unittest.TestCase):
    def written_so(self, words, form):
        self.assertEqual(write(text(words)), written(form), words)

    def test_everything_within_everything(self):
        for place, least in WHOLE_PLACES:
            for content, strength in CONTENTS:
                form = place.format(content if strength >= least else f"({content})")
                for pairs in (1, 2):
                    self.written_so(bare(place.format("(" * pairs + content + ")" * pairs)), form)
                self.written_so(form, form)

    def test_many_pairs(self):
        for place, least in WHOLE_PLACES:
            for content, strength in (("d", WORD), ("7", WORD), ("d[0]", POST), ("-d", SIGNED), ("d * e", 10), ("d + e", 9),
                                      ("d < e", 4), ("d || e", 2), ("d ? e : f", CHOICE), ("sum k < 3: d", SUM)):
                form = place.format(content if strength >= least else f"({content})")
                self.written_so(place.format("( " * 35 + content + " )" * 35), form)

    def test_every_operator_beside_every_other_one(self):
        for sign, strength in SIGNS:
            for other, others in SIGNS:
                plain = f"a {sign} b {other} c"
                comparisons = strength == others == COMPARISON
                left = f"(a {sign} b) {other} c"
                right = f"a {sign} (b {other} c)"
                from_left = strength >= others
                self.written_so(f"const A = {left};\n", f"const A = {plain if from_left and not comparisons else left};\n")
                self.written_so(f"const A = {right};\n", f"const A = {right if from_left else plain};\n")
                self.assertEqual(same(in_const(left), in_const(right)), [0], plain)
                if comparisons:
                    self.assertEqual(write(in_const(plain)), [-2], plain)
                    continue
                self.written_so(f"const A = {plain};\n", f"const A = {plain};\n")
                self.assertEqual(same(in_const(plain), in_const(left)), [1 if from_left else 0], plain)
                self.assertEqual(same(in_const(plain), in_const(right)), [0 if from_left else 1], plain)

    def test_operators_on_both_sides(self):
        signs = [signs[-1] for signs in OPERATORS]
        for left, middle, right in itertools.product(range(9), repeat=3):
            comparison = middle == 2
            first = f"a {signs[left]} b"
            last = f"c {signs[right]} d"
            given = f"const A = ({first}) {signs[middle]} ({last});\n"
            if left < middle or left == middle and comparison:
                first = f"({first})"
            if right <= middle:
                last = f"({last})"
            self.written_so(given, f"const A = {first} {signs[middle]} {last};\n")

    def test_rows_of_four_are_folded_as_the_grammar_says(self):
        signs = [signs[0] for signs in OPERATORS]
        for row in itertools.product(signs, repeat=3):
            words = f"const A = a {row[0]} b {row[1]} c {row[2]} d ;".split()
            tree = slow_tree(words)
            plain = text(" ".join(words))
            if tree is None:
                self.assertEqual(judge(plain)[0], -2, words)
                continue
            full = in_const(self.with_all_parentheses(tree[1][4]))
            self.assertEqual(same(plain, full), [1], words)
            self.assertEqual(write(full), written(" ".join(words).replace(" ;", ";\n")), words)

    def with_all_parentheses(self, tree):
        if isinstance(tree, str):
            return tree
        return "(" + self.with_all_parentheses(tree[1]) + tree[0] + self.with_all_parentheses(tree[2]) + ")"

    def test_each_pair_against_the_slow_reading(self):
        pieces = ("a", "-a", "(a)+b", "a?b:c", "sum i<3:a", "a[0]", "(a*b)")
        frames = ("({})+({})", "({})*(({})+a)", "(({})<({}))==a", "(({})?({}):b)?a:b", "-(({})-({}))", "(({})[({})])[1]",
                  "a@(({})+({}))", "sum j<(({})):({})", "(({})&&({}))||a", "((({})))|(-({}))", "f(({}),(({})))[0]")
        for frame in frames:
            for left, right in itertools.product(pieces, repeat=2):
                words = words_of("const A=" + frame.format(left, right) + ";")
                form = write(text(tight(words)))
                expected = without_needless(words)
                self.assertEqual(words_of(bytes(form[1:]).decode()), expected, words)
                self.assertEqual(write(form[1:]), form)

    def test_a_one_within_a_one(self):
        for one, form in (("-(-a)", "--a"), ("-((~(!(a))))", "-~!a"), ("-(-(a+b))", "--(a + b)"), ("(-a)", "-a"),
                          ("-(-a)[0]", "-(-a)[0]"), ("(-(-a))[0]", "(--a)[0]"), ("((-a))@1", "(-a)@1"),
                          ("-((-a)@1)", "-(-a)@1"), ("(-(a))-(-(b))", "-a - -b"), ("-(a)*b", "-a * b"),
                          ("-(a*b)", "-(a * b)"), ("(-a)*(-b)", "-a * -b"), ("!(a<b)", "!(a < b)"), ("(!a)<b", "!a < b")):
            self.written_so(f"const A={one};", f"const A = {form};\n")

    def test_a_post_within_a_post(self):
        for one, form in (("(a[0])[1]", "a[0][1]"), ("((a@1))@2", "a@1@2"), ("((a)[0])@(1)", "a[0]@1"),
                          ("((a+b)[0])[1]", "(a + b)[0][1]"), ("(f((a)))[(0)]", "f(a)[0]"), ("a@(b@1)", "a@(b@1)"),
                          ("a@((b))[1]", "a@b[1]"), ("a@(b[1])", "a@(b[1])")):
            self.written_so(f"const A={one};", f"const A = {form};\n")

    def test_delays_and_calls_keep_theirs(self):
        self.written_so("graph g(x:u8 at((1)))->(y:u8 at(((n)))/((n))){y=delay((2))((0))(x);y=delay((n))(((n)+1))(x);"
                        "y=delay(n+(1))((a?b:c))(x);}",
                        "graph g(x: u8 at 1) -> (y: u8 at n / n) {\n  y = delay 2(0)(x);\n  y = delay n(n + 1)(x);\n"
                        "  y = delay (n + 1)(a ? b : c)(x);\n}\n")
        self.written_so("const A=f((g((h((a))))));", "const A = f(g(h(a)));\n")


class Deep(unittest.TestCase):
    """Texts nested as deep as they may be."""

    # Ways of standing in one another, all of them as they are written, and how much deeper each lies.
    WAYS = (
        ("(", " + a) * b", 3), ("a - (b - ", ")", 3), ("a < (", ")", 3), ("(a ? b : ", ")[0]", 4), ("-(a + ", ")", 4),
        ("b + (sum i < 3: ", ")", 4), ("(a ? ", " : c) ? d : e", 4), ("f(", ")[0]", 3), ("held s16(", ")", 3), ("a[", "]", 2),
        ("a[1, ", "]", 2), ("a@(b + ", ")", 3), ("sum i < 3: ", "", 1), ("a ? ", " : b", 1), ("a ? b : ", "", 1), ("-", "", 1),
        ("~", "", 1), ("!", "", 1), ("sum i < (", " + 1): b", 2), ("sheet i, j < 3, (", " + 1): a", 2), ("round(a, ", ")", 3),
    )

    def test_needed_ones(self):
        for ahead, behind, steps in self.WAYS:
            times = 126 // steps
            inmost = "a"
            if ahead == "a < (":
                inmost = "b < c"
            whole = "sum i < 3: " * (126 % steps) + ahead * times + inmost + behind * times
            form = f"const A = {whole};\n"
            self.assertEqual(write(text(form)), written(form), ahead)
            self.assertEqual(write(text(bare(form))), written(form), ahead)
            self.assertEqual(write(in_const("sum i < 3: " + whole)), [-2], ahead)

    def test_needless_ones(self):
        for content, form in (("a", "a"), ("7", "7"), ("a - b", "a - b"), ("a ? b : c", "a ? b : c")):
            pairs = 41
            given = "(" * pairs + content + ")" * pairs
            self.assertEqual(write(in_const(given)), written(f"const A = {form};\n"))
            self.assertEqual(write(in_const("b[" + given[1:-1] + "]")), written(f"const A = b[{form}];\n"))
        self.assertEqual(write(in_const("(" * 42 + "a" + ")" * 42)), written("const A = a;\n"))
        self.assertEqual(write(in_const("(" * 43 + "a" + ")" * 43)), [-2])
        self.assertEqual(write(in_const("(-" * 31 + "a" + ")" * 31)), written("const A = " + "-" * 31 + "a;\n"))
        left = "(" * 42 + "a" + "-a)" * 42 + "-b"
        self.assertEqual(write(in_const(left)), written("const A = a" + " - a" * 42 + " - b;\n"))

    def test_needed_and_needless_ones_by_turns(self):
        given = "((" * 21 + "a" + "+b)*c)" * 21
        self.assertEqual(write(in_const(given)), written("const A = " + "(" * 21 + "a" + " + b) * c" * 21 + ";\n"))


if __name__ == "__main__":
    unittest.main()
