"""Call 7, part: the smallest part in which a byte lies.

Parts are marked in the texts here: «5 begins one that's a 5, » ends it.
"""

import unittest

from rilltexts.programs import judge
from rilltexts.programs import part
from tests.helper import FILLERS
from tests.helper import in_hexadecimal
from tests.helper import laid_out
from tests.helper import marked
from tests.helper import part_answers
from tests.helper import slow_parts
from tests.helper import text

NODE = "node n(«1x: u8») -> («1y: u8») { "
GRAPH = "graph g(«1x: u8 at 1») -> («1y: u8 at 1») { "

DECLARATIONS = (
    "«0const A = «81»;»",
    "«0table T: s16 = [«81»];»",
    "«0table T: s16 = [«81», «8a», «6-«82»», «7f(«83»)», «5«8a» ? «8b» : «8c»», «5«8a» + «8b»»];»",
    "«0fn f(a) = «8a»;»",
    "«0fn f(a, b, c) = «5«8a» + «8b»»;»",
    "«0node n(«1x: s16») -> («1y: s16») { }»",
    "«0node n(«1x: s16», «1b: u8 / 2», «1c: u8 / n») -> («1y: s16», «1d: s64[«83»]») { }»",
    "«0node n(«1x: s16») -> («1y: s16») { «2state s: u8 = «80»;» «3y = «7«8x»[«80»]»;» }»",
    "«0graph g(«1x: s16 at 8») -> («1y: s16 at n») { }»",
    "«0graph g(«1x: s16 at 8», «1b: u8 at R / 2») -> («1y: u8[«83»] at 8 / n», «1c: u8 at 9») { «4y = x;» «4c = b;» }»",
    "«0const A = «81»;» «0const B = «8A»;» «0fn f(a) = «8a»;»",
    "«0" + NODE + "}» «0" + GRAPH + "}» «0" + NODE + "}»",
)

# Ports, ends and the kinds in them.
PORTS = (
    "«1x: u8»", "«1x: s64 / 12»", "«1x: u16 / name»", "«1x: s16 / («82»)»", "«1x: s16 / («5«8G» + «81»»)»",
    "«1x: s16 / («7(«8G»)»)»", "«1x: u8[«83»]»", "«1x: u8[«8n»]»", "«1x: u8[«83», «8n»]»",
    "«1x: u8[«5«8a» + «81»», «6-«8b»»] / 2»", "«1x: u8[«7f(«8a»)»] / («6-«8a»»)»",
    "«1x: u8[«5«8a» ? «8b» : «8c»», «5sum i < 3: «8a»»]»", "«1x: u8[«7(«83»)»]»", "«1x: u8[«7«8a»@1»]»",
)
ENDS = (
    "«1x: u8 at 1»", "«1x: u8 at n»", "«1x: u8 at («81»)»", "«1x: u8 at («5«8R» * «82»»)»", "«1x: u8 at 1 / 2»",
    "«1x: u8 at n / m»", "«1x: u8 at («5«8R» + «81»») / («6-«8n»»)»", "«1x: u8[«83»] at 1»",
    "«1x: u8[«83», «5«8a» - «8b»»] at («7«8a»[«80»]») / («7(«8n»)»)»", "«1x: s32[«7«8a»@(«8b»)»] at 8»",
)
STATES = (
    "«2state s: u8 = «80»;»", "«2state s: u8[«83»] = «8a»;»", "«2state s: u8[«83», «8n»] = «6-«81»»;»",
    "«2state s: s16[«5«8n» + «81»»] = «5row i < («5«8n» + «81»»): «5«8a» * «8i»»»;»",
    "«2state s: u8 = «7(«80»)»;» «2state r: u8 = «5«8a» ? «8b» : «8c»»;»",
)
DOS = (
    "«3let a = «81»;»", "«3let a = «5«8x» + «8y»»;»", "«3y = «8a»;»", "«3y[«80»] = «8a»;»",
    "«3y[«5«8i» + «81»»] = «6-«7«8a»[«8i»]»»;»", "«3y[«7(«80»)»] = «7(«8a»)»;»", "«3y[«5sum i < 3: «8i»»] = «5sum i < 3: «8i»»;»",
    "«3let a = «81»;» «3y = «8a»;» «3y[«82»] = «7held s16(«8a»)»;»",
)
WIRES = (
    "«4y = x;»", "«4y = f(x);»", "«4a, b, c = f(x, y, z);»", "«4a, b = f(x);»", "«4y = delay 2(«80»)(x);»",
    "«4y = delay n(«8a»)(x);»", "«4y = delay («82»)(«80»)(x);»", "«4y = delay («5«8n» + «81»»)(«5«8a» ? «8b» : «8c»»)(x);»",
    "«4y = delay («7(«8n»)»)(«7(«80»)»)(x);»", "«4y = delay 2(«6-«81»»)(x);» «4z = y;» «4z = f(y);»",
)

ATOMS = (
    "«80»", "«8255»", "«8a»", "«8name_1»", "«7f(«8a»)»", "«7f(«8a», «81», «6-«8b»»)»", "«7f(«5«8a» + «8b»», «7g(«8c»)»)»",
    "«7held s16(«8a»)»", "«7wrapped u8(«5«8a» + «81»»)»", "«7round(«8a», «8b»)»", "«7abs(«8a»)»", "«7abs(«6-«8a»»)»",
    "«7min(«8a», «8b»)»", "«7max(«5«8a» - «81»», «7f(«8b»)»)»",
    "«7(«8a»)»", "«7(«7(«81»)»)»", "«7(«7(«7(«7(«8a»)»)»)»)»", "«7(«5«8a» + «8b»»)»", "«7(«7(«5«8a» + «8b»»)»)»",
    "«7(«5«8a» ? «8b» : «8c»»)»", "«7(«5sum i < 3: «8a»»)»", "«7(«6-«8a»»)»", "«7(«7«8a»[«80»]»)»",
)
POSTS = (
    "«7«8a»[«80»]»", "«7«8a»[«80», «81»]»", "«7«8a»@1»", "«7«8a»@n»", "«7«8a»@(«81»)»", "«7«8a»@(«5«8n» + «81»»)»",
    "«7«7«8a»[«80»]»[«81»]»", "«7«7«8a»@1»@n»", "«7«7«8a»[«80»]»@1»", "«7«7«8a»@1»[«80», «8i»]»",
    "«7«7«7«7«8a»[«80»]»[«81», «82»]»@3»@(«8n»)»", "«7«7f(«8a»)»[«80»]»", "«7«7(«8a»)»@1»", "«7«7(«5«8a» + «8b»»)»[«80»]»",
    "«7«87»[«80»]»", "«7«87»@1»", "«7«7abs(«8a»)»@(«6-«81»»)»", "«7«7held u8(«8a»)»[«5«8i» + «81»»]»",
    "«7«8a»[«5sum i < 3: «8b»», «5«8c» ? «8d» : «8e»»]»", "«7«8a»[«7«8b»[«7«8c»[«80»]»]»]»", "«7«8a»@(«7«8b»@(«7«8c»@1»)»)»",
    "«7«7(«7«8a»[«80»]»)»[«81»]»", "«7«7(«6-«8a»»)»@1»",
)
SIGNED = (
    "«6-«8a»»", "«6~«81»»", "«6!«8a»»", "«6-«6-«8a»»»", "«6-«6~«6!«6!«8a»»»»»", "«6-«7«8a»@1»»", "«6-«7«8a»[«80»]»»",
    "«6!«7f(«8a»)»»", "«6-«7(«5«8a» + «8b»»)»»", "«6-«6-«7«7(«6-«8a»»)»[«80»]»»»", "«6~«7(«6~«8a»»)»»",
)
ROWS = (
    "«5«8a» + «8b»»", "«5«5«8a» + «8b»» + «8c»»", "«5«8a» + «5«8b» * «8c»»»", "«5«5«8a» * «8b»» + «8c»»",
    "«5«5«8a» - «8b»» - «8c»»", "«5«8a» - «7(«5«8b» - «8c»»)»»", "«5«7(«5«8a» - «8b»»)» - «8c»»", "«5«8a» < «8b»»",
    "«5«5«8a» < «8b»» && «5«8c» >= «8d»»»", "«5«8a» || «5«8b» && «8c»»»", "«5«5«8a» && «8b»» || «8c»»",
    "«5«5«8a» || «8b»» || «8c»»", "«5«5«8a» && «8b»» && «8c»»",
    "«5«5«5«5«8a» + «8b»» + «8c»» + «8d»» + «8e»»", "«5«5«5«8a» * «8b»» / «8c»» % «8d»»",
    "«5«5«5«8a» * «8b»» + «5«8c» * «8d»»» - «5«8e» / «8f»»»", "«5«8a» | «5«8b» ^ «5«8c» & «5«8d» << «5«8e» + «5«8f» * «8g»»»»»»»",
    "«5«5«5«5«5«5«8a» * «8b»» + «8c»» >> «8d»» & «8e»» ^ «8f»» | «8g»»",
    "«5«5«5«8a» | «8b»» == «5«8c» | «8d»»» && «8e»»", "«5«5«8a» << «8b»» >> «8c»»", "«5«8a» << «5«8b» + «8c»»»",
    "«5«6-«8a»» - «6-«8b»»»", "«5«7«8a»[«80»]» + «7«8b»@1»»", "«5«7f(«8a»)» != «81»»", "«5«5«6!«8a»» && «6!«8b»»» || «7(«8c»)»»",
    "«5«7(«5«8a» < «8b»»)» < «8c»»", "«5«8a» < «7(«5«8b» < «8c»»)»»", "«5«8a» + «7(«5sum i < 3: «8b»»)»»",
    "«5«5«8a» & «8b»» & «5«8c» << «8d»»»", "«5«8a» > «5«8b» + «8c»»»", "«5«5«8a» + «8b»» > «8c»»",
    "«5«8a» ^ «5«8b» & «8c»»»", "«5«5«8a» ^ «8b»» ^ «8c»»", "«5«5«8a» | «8b»» | «5«8c» ^ «8d»»»",
)
CHOICES = (
    "«5«8a» ? «8b» : «8c»»", "«5«5«8a» || «8b»» ? «6-«8c»» : «6~«8d»»»", "«5«7(«5«8a» ? «8b» : «8c»»)» ? «8d» : «8e»»",
    "«5«8a» ? «5«8b» ? «8c» : «8d»» : «8e»»", "«5«8a» ? «8b» : «5«8c» ? «8d» : «8e»»»",
    "«5«8a» ? «5sum i < 3: «8b»» : «5row i < 3: «8c»»»", "«5«8a» ? «5«8b» + «8c»» : «5«8d» * «8e»»»",
    "«5«8a» ? «5sum i < 3: «5«8b» ? «8c» : «8d»»» : «8e»»", "«5«7«8a»[«80»]» ? «7(«8b»)» : «7f(«8c»)»»",
    "«5«5«8a» < «8b»» ? «8c» : «8d»»", "«5«7(«5sum i < 3: «8a»»)» ? «8b» : «8c»»",
)
SUMS = (
    "«5sum i < 3: «8a»»", "«5sum i < n: «8a»»", "«5sum i < («83»): «8a»»", "«5sum i < («5«8n» + «81»»): «8a»»",
    "«5row i < 3: «8a»»", "«5row i < n: «7«8a»[«8i»]»»", "«5row i < («6-«8n»»): «6-«8a»»»",
    "«5sheet i, j < 3, 4: «8a»»", "«5sheet i, j < n, m: «7«8a»[«8i», «8j»]»»", "«5sheet i, j < («8n»), 4: «8a»»",
    "«5sheet i, j < 3, («5«8m» * «82»»): «8a»»", "«5sheet i, j < («7(«8n»)»), («5sum k < 2: «8k»»): «5«8a» + «8b»»»",
    "«5sum i < 3: «5«8a» + «8b»»»", "«5sum i < 3: «5row j < 4: «5sheet k, l < 5, 6: «8a»»»»", "«5sum i < 3: «7(«8a»)»»",
    "«5sum i < 3: «5«8a» ? «8b» : «8c»»»", "«5row i < («5«8a» ? «8b» : «8c»»): «8a»»",
)
ES = ATOMS + POSTS + SIGNED + ROWS + CHOICES + SUMS


def all_texts():
    """Every marked text: each form at its places."""
    yield from DECLARATIONS
    for port in PORTS:
        yield f"«0node n({port}) -> («1y: u8») {{ }}»"
        yield f"«0node n(«1a: u8», {port}) -> ({port}, {port}) {{ }}»"
    for end in ENDS:
        yield f"«0graph g({end}) -> («1y: u8 at 1») {{ }}»"
        yield f"«0graph g(«1a: u8 at 1», {end}) -> ({end}, {end}) {{ }}»"
    for state in STATES:
        yield "«0" + NODE + state + "}»"
        yield "«0" + NODE + state + state + "«3y = «8s»;» }»"
    for do in DOS:
        yield "«0" + NODE + do + "}»"
        yield "«0" + NODE + "«2state s: u8 = «80»;»" + do + do + "}»"
    for wire in WIRES:
        yield "«0" + GRAPH + wire + "}»"
        yield "«0" + GRAPH + wire + wire + "}»"
    for e in ES:
        yield f"«0const A = {e};»"


def around_e(e):
    """An e at each of its places."""
    yield f"«0table T: u8 = [{e}, «80», {e}];»"
    yield f"«0fn f(a, b) = {e};»"
    yield f"«0node n(«1x: u8[{e}]») -> («1y: u8[«81», {e}] / ({e})») {{ «2state s: u8[{e}] = {e};» «3let a = {e};» «3y[{e}] = {e};» }}»"
    yield f"«0graph g(«1x: u8[{e}] at ({e})») -> («1y: u8 at 1 / ({e})») {{ «4y = delay ({e})({e})(x);» }}»"
    for form in (f"«7({e})»", f"«7f({e})»", f"«7f(«8a», {e}, {e})»", f"«7«8a»[{e}]»", f"«7«8a»[{e}, {e}]»", f"«7«8a»@({e})»",
                 f"«7held s16({e})»", f"«7wrapped s16({e})»", f"«7round({e}, {e})»", f"«7abs({e})»", f"«7min({e}, {e})»",
                 f"«7max({e}, {e})»", f"«5«8a» ? {e} : {e}»", f"«5sum i < ({e}): {e}»", f"«5row i < 3: {e}»",
                 f"«5sheet i, j < ({e}), ({e}): {e}»", f"«6-«7({e})»»", f"«5«7({e})» + «7({e})»»", f"«7«7({e})»[{e}]»"):
        yield f"«0const A = {form};»"


class Part(unittest.TestCase):
    def answers(self, words, filler):
        """A marked text laid out with fillers, and what is to be answered at each of its bytes."""
        found, parts = marked(words)
        whole, places = laid_out(found, filler)
        return text(whole), part_answers(len(whole), places, parts)

    def right_at(self, words, t, answers, places):
        for at in places:
            answer = answers[at] if at < len(answers) else [-5]
            self.assertEqual(part(at, t), answer, (words, bytes(t), at))

    def right_everywhere(self, words, filler):
        t, answers = self.answers(words, filler)
        self.right_at(words, t, answers, list(range(len(t) + 2)) + [4294967295])

    def right_at_the_edges(self, words, filler):
        """At each byte whose answer isn't the one ahead of it, at that one, and at the last."""
        t, answers = self.answers(words, filler)
        edges = [at for at in range(1, len(t)) if answers[at] != answers[at - 1]]
        self.right_at(words, t, answers, [0] + edges + [at - 1 for at in edges] + [len(t) - 1, len(t)])


class ByHand(unittest.TestCase):
    def right(self, words, rows):
        """Each row: from which byte up to which, and what is answered there."""
        t = text(words)
        covered = 0
        for first, behind, answer in rows:
            self.assertEqual(first, covered)
            covered = behind
            for at in range(first, behind):
                self.assertEqual(part(at, t), answer, (words, at))
        self.assertEqual(covered, len(words))
        for at in (len(t), len(t) + 1, 4294967295):
            self.assertEqual(part(at, t), [-5])

    def test_operators(self):
        self.right("const A = a + b + c;", (
            (0, 10, [0, 0, 0, 20, 0]), (10, 11, [0, 8, 10, 1, 3]), (11, 14, [0, 5, 10, 5, 2]), (14, 15, [0, 8, 14, 1, 3]),
            (15, 18, [0, 5, 10, 9, 1]), (18, 19, [0, 8, 18, 1, 2]), (19, 20, [0, 0, 0, 20, 0])))
        self.right("const A=a+b*c;", (
            (0, 8, [0, 0, 0, 14, 0]), (8, 9, [0, 8, 8, 1, 2]), (9, 10, [0, 5, 8, 5, 1]), (10, 11, [0, 8, 10, 1, 3]),
            (11, 12, [0, 5, 10, 3, 2]), (12, 13, [0, 8, 12, 1, 3]), (13, 14, [0, 0, 0, 14, 0])))

    def test_behind_an_atom(self):
        self.right("const A=-a[1]@n;", (
            (0, 8, [0, 0, 0, 16, 0]), (8, 9, [0, 6, 8, 7, 1]), (9, 10, [0, 8, 9, 1, 4]), (10, 11, [0, 7, 9, 4, 3]),
            (11, 12, [0, 8, 11, 1, 4]), (12, 13, [0, 7, 9, 4, 3]), (13, 15, [0, 7, 9, 6, 2]), (15, 16, [0, 0, 0, 16, 0])))

    def test_a_node(self):
        self.right("node n(x:u8/(2))->(y:u8){state s:u8=0;y=(x);}", (
            (0, 7, [0, 0, 0, 45, 0]), (7, 13, [0, 1, 7, 8, 1]), (13, 14, [0, 8, 13, 1, 2]), (14, 15, [0, 1, 7, 8, 1]),
            (15, 19, [0, 0, 0, 45, 0]), (19, 23, [0, 1, 19, 4, 1]), (23, 25, [0, 0, 0, 45, 0]), (25, 36, [0, 2, 25, 13, 1]),
            (36, 37, [0, 8, 36, 1, 2]), (37, 38, [0, 2, 25, 13, 1]), (38, 40, [0, 3, 38, 6, 1]), (40, 41, [0, 7, 40, 3, 2]),
            (41, 42, [0, 8, 41, 1, 3]), (42, 43, [0, 7, 40, 3, 2]), (43, 44, [0, 3, 38, 6, 1]), (44, 45, [0, 0, 0, 45, 0])))

    def test_a_graph(self):
        self.right("graph g(x:u8 at 1)->(y:u8 at n){y=delay 2(0)(x);}", (
            (0, 8, [0, 0, 0, 49, 0]), (8, 17, [0, 1, 8, 9, 1]), (17, 21, [0, 0, 0, 49, 0]), (21, 30, [0, 1, 21, 9, 1]),
            (30, 32, [0, 0, 0, 49, 0]), (32, 42, [0, 4, 32, 16, 1]), (42, 43, [0, 8, 42, 1, 2]), (43, 48, [0, 4, 32, 16, 1]),
            (48, 49, [0, 0, 0, 49, 0])))

    def test_a_choice_and_a_sum(self):
        self.right("const A=a?b:sum i<(3):12;", (
            (0, 8, [0, 0, 0, 25, 0]), (8, 9, [0, 8, 8, 1, 2]), (9, 10, [0, 5, 8, 16, 1]), (10, 11, [0, 8, 10, 1, 2]),
            (11, 12, [0, 5, 8, 16, 1]), (12, 19, [0, 5, 12, 12, 2]), (19, 20, [0, 8, 19, 1, 3]), (20, 22, [0, 5, 12, 12, 2]),
            (22, 24, [0, 8, 22, 2, 3]), (24, 25, [0, 0, 0, 25, 0])))

    def test_blanks_and_notes(self):
        self.right(" // n\nconst A // a\n=( 1 //b\n+ 2 ) ; //c\n\nfn f(a)=0xFF; ", (
            (0, 6, [-5]), (6, 20, [0, 0, 6, 29, 0]), (20, 22, [0, 7, 20, 13, 1]), (22, 23, [0, 8, 22, 1, 3]),
            (23, 30, [0, 5, 22, 9, 2]), (30, 31, [0, 8, 30, 1, 3]), (31, 33, [0, 7, 20, 13, 1]), (33, 35, [0, 0, 6, 29, 0]),
            (35, 41, [-5]), (41, 49, [0, 0, 41, 13, 0]), (49, 53, [0, 8, 49, 4, 1]), (53, 54, [0, 0, 41, 13, 0]), (54, 55, [-5])))


class Marked(Part):
    def test_the_marks_are_those_of_the_slow_reading(self):
        for words in all_texts():
            found, parts = marked(words)
            self.assertEqual(sorted(parts), sorted(slow_parts(found)), words)
            # No two parts have the same bytes, so that one is always the smallest.
            self.assertEqual(len(set((first, behind) for what, first, behind in parts)), len(parts), words)

    def test_every_byte_without_and_with_blanks(self):
        for words in all_texts():
            self.right_everywhere(words, "")
            self.right_everywhere(words, " ")

    def test_fillers_everywhere(self):
        for words in all_texts():
            for filler in FILLERS[1:]:
                self.right_at_the_edges(words, filler)

    def test_every_byte_of_notes(self):
        for words in DECLARATIONS:
            for filler in FILLERS:
                self.right_everywhere(words, filler)

    def test_es_at_every_place(self):
        for e in ATOMS[:5] + POSTS[-3:] + SIGNED[:1] + ROWS[:3] + CHOICES[:1] + SUMS[:1]:
            for words in around_e(e):
                self.right_everywhere(words, "")

    def test_all_es_within_others(self):
        for place, e in enumerate(ES):
            for words in list(around_e(e))[place % 5::5]:
                self.right_at_the_edges(words, "")

    def test_every_operator(self):
        for sign in "|| && < <= == != > >= | ^ & << >> + - * / %".split():
            self.right_everywhere(f"«0const A = «5«8a» {sign} «8b»»;»", "")
            self.right_everywhere(f"«0const A = «5«6-«8a»» {sign} «7(«8b»)»»;»", "//\n")

    def test_hexadecimal_numbers_are_as_long_as_they_stand(self):
        for e in ("«8255»", "«5«81» + «816»»", "«7«8a»[«810», «880»]»", "«6-«8255»»", "«5sum i < 10: «812»»", "«7«8a»@20»"):
            found, parts = marked(f"«0const A = {e};»")
            found = in_hexadecimal(found)
            for filler in ("",) + FILLERS:
                whole, places = laid_out(found, filler)
                answers = part_answers(len(whole), places, parts)
                self.right_at(e, text(whole), answers, range(len(whole) + 1))


class Nested(Part):
    def test_pairs_of_parentheses(self):
        for pairs in (1, 2, 41, 42):
            self.right_everywhere("«0const A = " + "«7(" * pairs + "«81»" + ")»" * pairs + ";»", "")
        self.right_at_the_edges("«0const A = " + "«7(" * 41 + "«5«8a» + «8b»»" + ")»" * 41 + ";»", " // n\n")

    def test_signs_of_a_one(self):
        for signs in (1, 2, 125, 126):
            self.right_everywhere("«0const A = " + "«6-" * signs + "«8a»" + "»" * signs + ";»", "")
        self.right_everywhere("«0const A = " + "«6!" * 126 + "«7«8a»@n»" + "»" * 126 + ";»", "")

    def test_long_rows(self):
        for many in (10, 60):
            self.right_everywhere("«0const A = " + "«5" * many + "«8a»" + " + «8b»»" * many + ";»", "")
            self.right_everywhere("«0const A = " + "«7" * many + "«8a»" + "[«80»]»" * many + ";»", "")
            self.right_everywhere("«0const A = " + "«7" * many + "«7f(«8a»)»" + "@n»" * many + ";»", "")
            self.right_everywhere("«0const A = " + "«7" * many + "«8a»" + "@(«8n»)»" * many + ";»", "")

    def test_sums_and_choices(self):
        self.right_at_the_edges("«0const A = " + "«5sum i < 3: " * 126 + "«8a»" + "»" * 126 + ";»", "")
        self.right_at_the_edges("«0const A = " + "«5«8a» ? «8b» : " * 126 + "«8c»" + "»" * 126 + ";»", "")
        self.right_at_the_edges("«0const A = " + "«5«8a» ? " * 126 + "«8c»" + " : «8b»»" * 126 + ";»", "")
        self.right_at_the_edges("«0const A = " + "«5row i < (" * 63 + "«8c»" + "): «8b»»" * 63 + ";»", "")

    def test_calls_and_what_is_behind_an_atom(self):
        self.right_at_the_edges("«0const A = " + "«7f(" * 42 + "«8a»" + ")»" * 42 + ";»", "")
        self.right_at_the_edges("«0const A = " + "«7«8a»[" * 63 + "«8a»" + "]»" * 63 + ";»", "")
        self.right_at_the_edges("«0const A = " + "«7«8a»@(" * 42 + "«8a»" + ")»" * 42 + ";»", "")
        self.right_at_the_edges("«0const A = " + "«6-«7«7f(" * 31 + "«8a»" + ")»[«80»]»»" * 31 + ";»", "")


class Outside(unittest.TestCase):
    def test_texts_without_declarations(self):
        for words in ("", " ", "\n", "//", "// const A = 1;", " \n// const A = 1;\n \n"):
            for at in list(range(len(words) + 2)) + [4294967295]:
                self.assertEqual(part(at, text(words)), [-5], words)

    def test_ahead_between_and_behind(self):
        one = "const A=1;"
        for filler in FILLERS:
            t = text(filler + one + filler + one + filler)
            ahead = len(filler)
            for at in range(len(t) + 1):
                behind = (at - ahead) % (len(one) + ahead)
                inside = at >= ahead and behind < len(one) and at < len(t)
                self.assertEqual(part(at, t)[0], 0 if inside else -5, (filler, at))

    def test_the_last_byte_and_the_one_behind(self):
        for words, answer in (("const A=1;", [0, 0, 0, 10, 0]), (" fn f(a)=a;", [0, 0, 1, 10, 0]),
                              ("node n(x:u8)->(y:u8){}", [0, 0, 0, 22, 0]), ("const A=1;\n", [-5]), ("const A=1;//", [-5])):
            t = text(words)
            self.assertEqual(part(len(t) - 1, t), answer, words)
            self.assertEqual(part(len(t), t), [-5], words)
            self.assertEqual(part(4294967295, t), [-5], words)


class Refusals(unittest.TestCase):
    NO_PROGRAMS = ("x", "const", "const A = 1", "const A = 01;", "$", "const A = 1; $", "const A = a < b < c;", "const A = 1;;",
                   "const A = " + "(" * 43 + "1" + ")" * 43 + ";", "const A=1;" * 4097, "const held = 1;", "const A = b + sum i < 3: a;")

    def test_no_programs_texts(self):
        for words in self.NO_PROGRAMS:
            self.assertEqual(judge(text(words))[0], -2)
            for at in (0, 1, 6, len(words) - 1, len(words), 100000, 4294967295):
                self.assertEqual(part(at, text(words)), [-2], words[:40])

    def test_texts_that_are_too_long(self):
        for at in (0, 1048576, 1048577, 4294967295):
            self.assertEqual(part(at, [36] * 1048577), [-1])
            self.assertEqual(part(at, text("const A=1;") + [32] * 1048567), [-1])
        self.assertEqual(part(0, [36] * 1048576), [-2])
        t = [32] * 1048566 + text("const A=1;")
        self.assertEqual(part(1048574, t), [0, 8, 1048574, 1, 1])
        self.assertEqual(part(1048565, t), [-5])
        self.assertEqual(part(1048576, t), [-5])


class Calls(unittest.TestCase):
    TEXTS = ("const A=(1);", " fn f(a)=(0x1)[2]; // n", "", "const", "$", "node n(x:u8)->(y:u8){y=(x)[0];}const B=2;")

    def test_what_is_handed_in_stays_as_it_was_and_nothing_is_kept(self):
        texts = [text(one) for one in self.TEXTS]
        calls = [(at, t) for t in texts for at in (0, 8, 9, 11, 4294967295)]
        first = [part(at, t) for at, t in calls]
        self.assertEqual([part(at, t) for at, t in calls], first)
        self.assertEqual([part(at, t) for at, t in reversed(calls)], first[::-1])
        self.assertEqual(texts, [text(one) for one in self.TEXTS])

    def test_answers_are_the_callers_own_lists_of_whole_numbers(self):
        for one in self.TEXTS:
            for at in (0, 9, 100):
                answer = part(at, text(one))
                self.assertIs(answer.__class__, list)
                for number in answer:
                    self.assertIs(number.__class__, int)
                answer.append(7)
                self.assertNotEqual(part(at, text(one)), answer)


if __name__ == "__main__":
    unittest.main()
