"""Each form of the grammar: right, cut off behind each token, with each token missing, and with each other token in
its place, as the slow reading of the document's grammar judges it."""

import unittest

from rilltexts.grammar import GRAMMAR
from rilltexts.grammar import first_tokens
from rilltexts.programs import judge
from tests.helper import BEGINNING
from tests.helper import KEPT_WORDS
from tests.helper import SIGNS
from tests.helper import can_come
from tests.helper import go_on
from tests.helper import slow_judge
from tests.helper import slow_judge_from
from tests.helper import spaced

OTHERS = KEPT_WORDS + SIGNS + ["x", "7", "$"]

NODE = "node n ( x : u8 ) -> ( y : u8 ) { "
GRAPH = "graph g ( x : u8 at 1 ) -> ( y : u8 at 1 ) { "

FORMS = (
    "const A = 1 ;",
    "const A = 1 ; const B = A ;",
    "table T : s16 = [ 1 , a , 2 ] ;",
    "fn f ( a , b , c ) = a ;",
    "node n ( x : s8 , z : u16 / 2 ) -> ( y : s16 , w : u32 / n ) { state s : u8 = 0 ; let a = 1 ; y = a ; }",
    "graph g ( x : u8 at 1 , z : u8 at n / 2 ) -> ( y : u8 at 3 , w : u8 at 4 / 5 ) { y = x ; w = z ; }",
    "node n ( x : u8 [ 1 ] / ( 2 ) ) -> ( y : u8 [ 1 , 2 ] ) { }",
    "graph g ( x : s64 [ 1 ] at ( 2 ) ) -> ( y : s32 [ 1 , 2 ] at n / ( 2 ) ) { }",
    NODE + "state s : u8 = 0 ; state t : u8 [ 1 , 2 ] = 0 ; }",
    NODE + "y [ 1 ] = 2 ; let a = 1 ; y = a ; }",
    GRAPH + "y = f ( x ) ; a , b , c = f ( x , y ) ; }",
    GRAPH + "y = delay 2 ( 0 ) ( x ) ; y = x ; }",
    GRAPH + "y = delay n ( a + 1 ) ( x ) ; y = delay ( 2 ) ( 0 ) ( x ) ; }",
    "const A = a ? b : c ;",
    "const A = a ? b ? c : d : e ? f : g ;",
    "const A = sum i < 3 : a + b ;",
    "const A = row i < n : a ;",
    "const A = sheet i , j < ( 2 ) , 3 : a ;",
    "const A = a || b && c < d | e ^ f & g << h + i * j ;",
    "const A = a * b + c >> d & e ^ f | g >= h && i || j ;",
    "const A = a <= b && c == d || e != f && g > h ;",
    "const A = a - b / c % d ;",
    "const A = - ~ ! a - - b ;",
    "const A = a [ 1 ] [ 2 , 3 ] @ 4 @ n @ ( 5 ) ;",
    "const A = f ( a , b , c ) + ( d ) ;",
    "const A = held s16 ( a ) + wrapped u8 ( b ) ;",
    "const A = round ( a , b ) + abs ( c ) ;",
    "const A = min ( a , b ) + max ( c , d ) ;",
)


def stacks_along(words):
    """The grammar's ways behind each beginning of a right row of tokens."""
    stacks = BEGINNING
    along = [stacks]
    for word in words:
        stacks = go_on(can_come(stacks), word)
        along.append(stacks)
    return along


class EachForm(unittest.TestCase):
    def judged(self, words, answer):
        self.assertEqual(judge(spaced(words)[0]), answer, " ".join(words))

    def test_right(self):
        for form in FORMS:
            declared = 2 if form.count("const") == 2 else 1
            self.assertEqual(slow_judge(form.split()), [declared], form)
            self.judged(form.split(), [declared])

    def test_cut_off(self):
        for form in FORMS:
            words = form.split()
            along = stacks_along(words)
            for at in range(len(words)):
                self.judged(words[:at], slow_judge_from(along[at], words[:at], at))

    def test_a_token_missing(self):
        for form in FORMS:
            words = form.split()
            along = stacks_along(words)
            for at in range(len(words)):
                fewer = words[:at] + words[at + 1:]
                self.judged(fewer, slow_judge_from(along[at], fewer, at))

    def test_another_token_in_its_place(self):
        for form in FORMS:
            words = form.split()
            along = stacks_along(words)
            for at in range(len(words)):
                for other in OTHERS:
                    changed = words[:at] + [other] + words[at + 1:]
                    self.judged(changed, slow_judge_from(along[at], changed, at))

    def test_a_token_more(self):
        for form in FORMS:
            words = form.split()
            along = stacks_along(words)
            for at in range(len(words) + 1):
                for other in ("x", "7", "$", "-", "(", ",", ";", "sum", "u8", "const"):
                    longer = words[:at] + [other] + words[at:]
                    self.judged(longer, slow_judge_from(along[at], longer, at))


class TheGrammar(unittest.TestCase):
    def test_the_next_token_tells_how_to_go_on(self):
        for rule in GRAMMAR:
            firsts = []
            for way in GRAMMAR[rule]:
                firsts.extend(first_tokens(way[0]))
            self.assertEqual(len(firsts), len(set(firsts)), rule)


if __name__ == "__main__":
    unittest.main()
