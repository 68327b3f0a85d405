"""How deep an e, one, atom, size may stand in others of these."""

import unittest

from rilltexts.programs import classes
from rilltexts.programs import decl
from rilltexts.programs import find
from rilltexts.programs import judge
from rilltexts.programs import part
from rilltexts.programs import same
from rilltexts.programs import tokens
from rilltexts.programs import write
from tests.helper import slow_parts
from tests.helper import text
from tests.helper import words_of

HEAD = "const A="
NODE = "node n(x:u8)->(y:u8){"
GRAPH = "graph g(x:u8 at 1)->(y:u8 at 1){"

# Ways in which an e stands in another: what is ahead of it, what behind, how much deeper it lies, and where in
# what is ahead the first e stands that lies as deep (none: the e itself is the first).
WAYS = (
    ("(", ")", 3, None), ("1+(", ")", 3, None), ("-(", ")", 4, None), ("!~(", ")", 5, None),
    ("f(", ")", 3, None), ("f(", ",a)", 3, None), ("f(a,", ")", 3, 2), ("f(a,a,", ",a)", 3, 2), ("-f(", ")", 4, None),
    ("a[", "]", 2, None), ("a[", ",0]", 2, None), ("a[0,", "]", 2, 2), ("-a[", "]", 3, None), ("a[0][", "]", 2, 2),
    ("a@(", ")", 3, None), ("a@1@(", ")", 3, None), ("-a@(", ")", 4, None),
    ("held s16(", ")", 3, None), ("wrapped u8(", ")", 3, None),
    ("round(", ",1)", 3, None), ("round(1,", ")", 3, 6), ("abs(", ")", 3, None),
    ("min(", ",1)", 3, None), ("min(1,", ")", 3, 4), ("max(", ",1)", 3, None), ("max(1,", ")", 3, 4),
    ("sum i<1:", "", 1, None), ("row i<1:", "", 1, None), ("sheet i,j<1,1:", "", 1, None),
    ("sum i<(", "):1", 2, None), ("row i<(", "):1", 2, None),
    ("sheet i,j<(", "),1:1", 2, None), ("sheet i,j<1,(", "):1", 2, None),
    ("a?", ":a", 1, None), ("a?a:", "", 1, 2),
)

# Where an e, or a size's ( e ), stands in no other e, one, atom; and in how many sizes it does.
PLACES = (
    ("const A=", ";", 0), ("table T:u8=[", "];", 0), ("table T:u8=[1,", "];", 0), ("fn f(a)=", ";", 0),
    ("node n(x:u8[", "])->(y:u8){}", 0), ("node n(x:u8[1,", "])->(y:u8){}", 0), ("node n(x:u8)->(y:u8[", "]){}", 0),
    ("graph g(x:u8[", "] at 1)->(y:u8 at 1){}", 0), ("graph g(x:u8 at 1)->(y:u8[1,", "] at 1){}", 0),
    (NODE + "state s:u8=", ";}", 0), (NODE + "state s:u8[", "]=1;}", 0), (NODE + "let a=", ";}", 0),
    (NODE + "y=", ";}", 0), (NODE + "y[", "]=1;}", 0), (NODE + "y[1]=", ";}", 0),
    (GRAPH + "y=delay 1(", ")(x);}", 0), (GRAPH + "y=delay (1)(", ")(x);}", 0),
    ("node n(x:u8/(", "))->(y:u8){}", 1), ("node n(x:u8)->(y:u8/(", ")){}", 1),
    ("graph g(x:u8 at (", "))->(y:u8 at 1){}", 1), ("graph g(x:u8 at 1/(", "))->(y:u8 at 1){}", 1),
    ("graph g(x:u8 at 1)->(y:u8 at (1)/(", ")){}", 1), (GRAPH + "y=delay (", ")(1)(x);}", 1),
)


class Depth(unittest.TestCase):
    def right(self, words):
        self.assertEqual(judge(text(words)), [1], words)

    def too_deep(self, words, place):
        self.assertEqual(judge(text(words)), [-2, 3, place], words)

    def test_parentheses(self):
        self.right(HEAD + "(" * 42 + "1" + ")" * 42 + ";")
        self.too_deep(HEAD + "(" * 43 + "1" + ")" * 43 + ";", 51)
        self.too_deep(HEAD + "(" * 44 + "1" + ")" * 44 + ";", 51)
        self.too_deep(HEAD + "(" * 5000, 51)

    def test_signs_of_a_one(self):
        for sign in ("-", "~", "!"):
            self.right(HEAD + sign * 126 + "1;")
            self.too_deep(HEAD + sign * 127 + "1;", 8 + 127)
            self.too_deep(HEAD + sign * 128 + "1;", 8 + 128)
            self.too_deep(HEAD + sign * 129 + "1;", 8 + 128)
            self.too_deep(HEAD + sign * 5000, 8 + 128)
            self.right(HEAD + "1+" + sign * 126 + "1-" + sign * 126 + "1;")

    def test_each_way_in_which_an_e_stands_in_another(self):
        for ahead, behind, steps, first in WAYS:
            times = 126 // steps
            filled = 126 - times * steps
            for more in (0, 1):
                front = HEAD + "sum i<1:" * (filled + more) + ahead * times
                words = front + "1" + behind * times + ";"
                if more == 0:
                    self.right(words)
                else:
                    self.too_deep(words, len(front) if first is None else len(front) - len(ahead) + first)

    def test_each_way_beside_shallow_ones(self):
        for ahead, behind, steps, first in WAYS:
            one = "(" + ahead + "1" + behind + ")"
            self.right(HEAD + "+".join([one] * 300) + ";")

    def test_each_place_in_which_an_e_begins(self):
        for ahead, behind, sizes in PLACES:
            most = 42 - sizes
            self.right(ahead + "(" * most + "1" + ")" * most + behind)
            self.too_deep(ahead + "(" * (most + 1) + "1" + ")" * (most + 1) + behind, len(ahead) + most + 1)
            self.right(ahead + "-" * (126 - sizes) + "1" + behind)
            self.too_deep(ahead + "-" * (127 - sizes) + "1" + behind, len(ahead) + 127 - sizes)

    def test_sums_at_the_limit(self):
        one = "sum i<1:"
        self.right(HEAD + one * 126 + "1;")
        self.too_deep(HEAD + one * 127 + "1;", 8 + 8 * 127)
        self.too_deep(HEAD + one * 128 + "1;", 8 + 8 * 128)
        self.too_deep(HEAD + one * 129 + "1;", 8 + 8 * 128 + 6)
        self.too_deep(HEAD + one * 128 + "sheet i,j<1,1:1;", 8 + 8 * 128 + 10)
        self.too_deep(HEAD + one * 128 + "row i<(1):1;", 8 + 8 * 128 + 6)

    def test_what_is_behind_an_atom_stands_in_its_one(self):
        signs = "-" * 126
        self.right(HEAD + signs + "a@1@n;")
        self.too_deep(HEAD + signs + "a@(1);", 8 + 126 + 3)
        self.too_deep(HEAD + signs + "a[1];", 8 + 126 + 2)
        self.too_deep(HEAD + signs + "f(1);", 8 + 126 + 2)
        self.too_deep(HEAD + signs + "(1);", 8 + 126 + 1)
        self.right(HEAD + "-" * 124 + "a[1];")
        self.too_deep(HEAD + "-" * 125 + "a[1];", 8 + 125 + 2)
        self.right(HEAD + "a[1]" + "[1]" * 500 + "@1" * 500 + ";")

    def test_what_cannot_stand_is_told_ahead_of_what_is_too_deep(self):
        for words, place in (("-" * 127 + ";", 127), ("-" * 128 + ")", 128), ("-" * 128 + "sum i<1:1;", 128),
                             ("sum i<1:" * 128 + "sum i<-", 8 * 128 + 6), ("sum i<1:" * 128 + "sum 1", 8 * 128 + 4)):
            self.assertEqual(judge(text(HEAD + words)), [-2, 2, 8 + place], words)


def parts_around(ahead, behind):
    """In how many parts an e stands that stands in another in that way; read from a text that isn't deep."""
    front = words_of(HEAD + ahead)
    parts = slow_parts(front + ["7"] + words_of(behind + ";"))
    return sum(first <= len(front) < end for what, first, end in parts) - 2


class AllCalls(unittest.TestCase):
    """Each way of standing in one another, as deep as it may be, and one deeper."""

    def test_as_deep_as_may_be(self):
        for ahead, behind, steps, first in WAYS:
            front = HEAD + "sum i<1:" * (126 % steps) + ahead * (126 // steps)
            words = front + "7" + behind * (126 // steps) + ";"
            t = text(words)
            form = write(t)[1:]
            self.assertEqual((judge(t), judge(form)), ([1], [1]), ahead)
            self.assertEqual((write(form)[1:], same(t, form), same(form, t)), (form, [1], [1]), ahead)
            self.assertEqual(tokens(t)[0], len(words_of(words)), ahead)
            self.assertEqual((decl(0, t), decl(1, t)), ([0, 0, 0, len(t), 6, 1], [-4]), ahead)
            self.assertEqual((find(t, text("A")), find(t, text("a"))), ([0], [-5]), ahead)
            deep = 1 + 126 % steps + parts_around(ahead, behind) * (126 // steps)
            self.assertEqual(part(len(front), t), [0, 8, len(front), 1, deep], ahead)
            self.assertEqual((part(0, t), part(len(t) - 1, t)), ([0, 0, 0, len(t), 0],) * 2, ahead)
            self.assertEqual(len(classes(t)), 1 + len(t), ahead)

    def test_one_deeper(self):
        for ahead, behind, steps, first in WAYS:
            words = HEAD + "sum i<1:" * (126 % steps + 1) + ahead * (126 // steps) + "7" + behind * (126 // steps) + ";"
            t = text(words)
            self.assertEqual([write(t), same(t, t), decl(0, t), find(t, text("A")), part(8, t)], [[-2]] * 5, ahead)
            self.assertEqual(judge(t)[:2], [-2, 3], ahead)
            self.assertEqual((tokens(t)[0], len(classes(t))), (len(words_of(words)), 1 + len(t)), ahead)

    def test_parentheses_and_signs(self):
        t = text(HEAD + "(" * 42 + "1" + ")" * 42 + ";")
        for k in range(42):
            self.assertEqual(part(8 + k, t), [0, 7, 8 + k, 85 - 2 * k, 1 + k])
            self.assertEqual(part(8 + 84 - k, t), [0, 7, 8 + k, 85 - 2 * k, 1 + k])
        self.assertEqual(part(50, t), [0, 8, 50, 1, 43])
        t = text(HEAD + "-" * 126 + "1;")
        for k in range(126):
            self.assertEqual(part(8 + k, t), [0, 6, 8 + k, 127 - k, 1 + k])
        self.assertEqual(part(134, t), [0, 8, 134, 1, 127])


if __name__ == "__main__":
    unittest.main()
