"""The promises over the whole program, on many texts that are grown from the document's grammar."""

import random
import unittest

from rilltexts.programs import classes
from rilltexts.programs import decl
from rilltexts.programs import find
from rilltexts.programs import judge
from rilltexts.programs import part
from rilltexts.programs import same
from rilltexts.programs import tokens
from rilltexts.programs import write
from tests.helper import DECLARATION_WORDS
from tests.helper import FILLERS
from tests.helper import KEPT_WORDS
from tests.helper import ROWS
from tests.helper import RULES
from tests.helper import SIGNS
from tests.helper import in_hexadecimal
from tests.helper import laid_out
from tests.helper import number_of_token
from tests.helper import pairs_of
from tests.helper import part_answers
from tests.helper import slow_judge
from tests.helper import slow_parts
from tests.helper import slow_tree
from tests.helper import spaced
from tests.helper import text
from tests.helper import tight
from tests.helper import without_needless
from tests.helper import words_of

NAMES = ("a", "b", "x", "n_1", "Abc", "f", "_", "sums")
NUMBERS = ("0", "1", "2", "10", "255", "9223372036854775807", "0x0", "0x1F", "0x7FFFFFFFFFFFFFFF")

# How often each way of a rule is taken, and how often where it shall not go deeper.
WAYS = {"e": (8, 1, 1), "one": (1, 4), "atom": (4, 4, 1, 3, 1, 1, 1, 1), "size": (3, 3, 2)}
PLAIN_WAYS = {"e": (1, 0, 0), "one": (0, 1), "atom": (1, 1, 0, 0, 0, 0, 0, 0), "size": (1, 1, 0)}
DEEPEST = 3
PROGRAMS = 200


class Grower:
    """Grows tokens by the grammar's words; of one seed always the same ones."""

    def __init__(self, seed):
        self.source = random.Random(seed)

    def program(self, most=120):
        """One to three declarations, of that many tokens at most."""
        words = []
        while not words or len(words) > most:
            words = []
            for i in range(self.source.randint(1, 3)):
                words.extend(self.grow(("rule", "decl"), "", 0))
        return words

    def grow(self, node, rule, depth):
        form = node[0]
        if form == "token":
            return [self.source.choice({"name": NAMES, "number": NUMBERS}.get(node[1], (node[1],)))]
        if form == "rule":
            return self.grow(RULES[node[1]], node[1], depth + (node[1] == "e"))
        if form == "seq":
            return [word for one in node[1:] for word in self.grow(one, rule, depth)]
        if form == "alt":
            often = (WAYS if depth < DEEPEST else PLAIN_WAYS).get(rule, ())
            if len(often) != len(node) - 1:
                often = [1] * (len(node) - 1)
            return self.grow(self.source.choices(node[1:], often)[0], rule, depth)
        return self.grow_often(node, rule, depth)

    def grow_often(self, node, rule, depth):
        """What there may be any number of, or one, or none."""
        often = 0.4
        if rule in ROWS + ("e", "post"):
            often = 0.12 if depth < DEEPEST else 0.03
        words = []
        while self.source.random() < often:
            words.extend(self.grow(node[1], rule, depth))
            if node[0] == "opt":
                break
        return words

    def fillers(self, words, others=("", "", " ")):
        return [self.source.choice(others + FILLERS) for place in range(len(words) + 1)]


def grown(many, most=120):
    """Growers and the programs that they have grown."""
    for seed in range(many):
        grower = Grower(seed)
        yield grower, grower.program(most)


def declarations_in(words):
    return sum(word in DECLARATION_WORDS for word in words)


def in_parentheses(words, first, behind):
    return words[:first] + ["("] + words[first:behind] + [")"] + words[behind:]


def relatives(grower, words):
    """Rows of tokens that are nearly these: some have the same tree, some another, some none."""
    source = grower.source
    inner = [one for one in slow_parts(words) if one[0] > 4]
    for what, first, behind in source.sample(inner, min(3, len(inner))):
        yield in_parentheses(words, first, behind)
    pairs = pairs_of(words)
    for first, last in source.sample(pairs, min(3, len(pairs))):
        yield words[:first] + words[first + 1:last] + words[last + 1:]
    for place in source.sample(range(len(words)), 3):
        others = {0: NAMES, 1: NUMBERS, 2: KEPT_WORDS, 3: SIGNS}[number_of_token(words[place])[0]]
        yield words[:place] + [source.choice(others)] + words[place + 1:]
    first = source.randrange(len(words))
    last = source.randrange(first, len(words))
    yield words[:first] + ["("] + words[first:last] + [")"] + words[last:]
    yield in_hexadecimal(words)


def broken(grower, words):
    """Rows of tokens that mostly are no programs."""
    source = grower.source
    others = KEPT_WORDS + SIGNS + ["x", "7", "$", "x" * 33, "9" * 20]
    for i in range(6):
        place = source.randrange(len(words))
        yield words[:place] + [source.choice(others)] + words[place:]
        yield words[:place] + [source.choice(others)] + words[place + 1:]
        yield words[:place] + words[place + 1:]
        yield words[:place]
        other = source.randrange(len(words))
        yield words[:place] + words[other:]


def fault_of(words):
    """What is wrong first: the fault's kind and the token, or nothing. The slow reading takes any digits."""
    words = ["$" if word == "9" * 20 else word for word in words]
    answer = slow_judge(words)
    if answer[0] >= 0:
        return None
    return answer[1], spaced(words)[1].index(answer[2])


class Grown(unittest.TestCase):
    def test_what_is_grown_has_all_there_is(self):
        words = set()
        parts = set()
        for grower, program in grown(PROGRAMS):
            words.update(program)
            parts.update(what for what, first, behind in slow_parts(program))
        self.assertEqual(words & set(KEPT_WORDS + SIGNS), set(KEPT_WORDS + SIGNS))
        self.assertEqual(parts, set(range(9)))

    def test_e1_programs_have_a_tree(self):
        for grower, words in grown(PROGRAMS):
            t = text(laid_out(words, grower.fillers(words))[0])
            self.assertEqual(judge(t), [declarations_in(words)], words)
            self.assertEqual(slow_judge(words), judge(t), words)
            self.assertGreaterEqual(write(t)[0], 0)

    def test_e1_others_have_a_first_fault(self):
        kinds = {1: 0, 2: 0}
        for grower, program in grown(PROGRAMS, 60):
            for words in broken(grower, program):
                # Something is between all of them: tokens of no program could grow together otherwise.
                whole, places = laid_out(words, grower.fillers(words, ()))
                t = text(whole)
                fault = fault_of(words)
                if fault is None:
                    self.assertEqual(judge(t), [declarations_in(words)], whole)
                    continue
                kind, token = fault
                kinds[kind] += 1
                place = places[token][0] if token < len(words) else len(t)
                self.assertEqual(judge(t), [-2, kind, place], whole)
                self.assertEqual([write(t), same(t, t), same([], t), decl(0, t), find(t, []), part(0, t)], [[-2]] * 6, whole)
        self.assertGreater(min(kinds.values()), 50)

    def test_e2_written_it_is_read_as_the_same_tree(self):
        for grower, words in grown(PROGRAMS):
            t = text(laid_out(words, grower.fillers(words))[0])
            form = write(t)[1:]
            self.assertEqual(write(form), [len(form)] + form, words)
            self.assertEqual((same(t, form), same(form, t), same(form, form)), ([1], [1], [1]), words)
            self.assertEqual(slow_tree(words_of(bytes(form).decode())), slow_tree(words), words)

    def test_e2_the_same_tree_just_if_written_alike(self):
        counts = {True: 0, False: 0}
        for grower, words in grown(PROGRAMS):
            tree = slow_tree(words)
            t = text(tight(words))
            for other in relatives(grower, words):
                s = text(" ".join(other))
                others = slow_tree(other)
                if others is None:
                    self.assertEqual((write(s), same(t, s), same(s, t)), ([-2], [-2], [-2]), other)
                    continue
                alike = tree == others
                counts[alike] += 1
                self.assertEqual(write(t) == write(s), alike, (words, other))
                self.assertEqual((same(t, s), same(s, t)), ([int(alike)], [int(alike)]), (words, other))
        self.assertGreater(min(counts.values()), 100)

    def test_e2_parentheses_are_just_those_that_are_needed(self):
        for grower, words in grown(PROGRAMS, 60):
            form = write(text(tight(words)))[1:]
            expected = without_needless([str(int(word, 0)) if word[0].isdigit() else word for word in words])
            self.assertEqual(words_of(bytes(form).decode()), expected, words)

    def test_e2_parentheses_around_any_part_change_nothing(self):
        for grower, words in grown(PROGRAMS, 60):
            t = text(tight(words))
            for what, first, behind in slow_parts(words):
                if what > 4:
                    s = text(tight(in_parentheses(words, first, behind)))
                    self.assertEqual((same(t, s), write(s)), ([1], write(t)), (words, first, behind))


class Places(unittest.TestCase):
    def test_e3_tokens(self):
        for grower, words in grown(PROGRAMS):
            whole, places = laid_out(words, grower.fillers(words))
            answer = [len(words)]
            for word, (first, end) in zip(words, places):
                answer.extend([first, end - first] + number_of_token(word))
            self.assertEqual(tokens(text(whole)), answer, whole)

    def test_e3_declarations(self):
        for grower, words in grown(PROGRAMS):
            whole, places = laid_out(words, grower.fillers(words))
            t = text(whole)
            declared = sorted((first, behind) for what, first, behind in slow_parts(words) if what == 0)
            names = [words[first + 1] for first, behind in declared]
            for i, (first, behind) in enumerate(declared):
                begin = places[first][0]
                name = places[first + 1]
                self.assertEqual(decl(i, t), [0, DECLARATION_WORDS.index(words[first]), begin, places[behind - 1][1] - begin,
                                              name[0], name[1] - name[0]], whole)
                self.assertEqual(find(t, text(names[i])), [names.index(names[i])], whole)
            self.assertEqual(decl(len(declared), t), [-4], whole)
            for name in NAMES:
                if name not in names:
                    self.assertEqual(find(t, text(name)), [-5], whole)

    def test_e3_parts(self):
        for grower, words in grown(PROGRAMS):
            whole, places = laid_out(words, grower.fillers(words))
            t = text(whole)
            answers = part_answers(len(t), places, slow_parts(words))
            for at in grower.source.sample(range(len(t)), min(40, len(t))) + [0, len(t) - 1]:
                self.assertEqual(part(at, t), answers[at], (whole, at))
            self.assertEqual(part(len(t), t), [-5])

    def test_e3_calls_agree(self):
        """Of what the calls tell by themselves: parts begin and end with tokens, and stand in the declarations."""
        for grower, words in grown(PROGRAMS // 4, 60):
            t = text(laid_out(words, grower.fillers(words))[0])
            answer = tokens(t)
            firsts = answer[1::4]
            ends = [first + length for first, length in zip(firsts, answer[2::4])]
            declared = [decl(i, t) for i in range(judge(t)[0])]
            for at in range(len(t)):
                told = part(at, t)
                around = [one for one in declared if one[2] <= at < one[2] + one[3]]
                self.assertEqual(len(around), 0 if told == [-5] else 1)
                if around:
                    self.assertIn(told[2], firsts)
                    self.assertIn(told[2] + told[3], ends)
                    self.assertTrue(told[2] <= at < told[2] + told[3])
                    self.assertEqual(told[1] == 0, told[4] == 0)
                    self.assertGreaterEqual(told[2], around[0][2])
                    self.assertLessEqual(told[2] + told[3], around[0][2] + around[0][3])
                    if told[1] == 0:
                        self.assertEqual(told[2:4], around[0][2:4])

    def test_classes_and_tokens_agree(self):
        for grower, words in grown(PROGRAMS):
            whole, places = laid_out(words, grower.fillers(words))
            answer = classes(text(whole))
            self.assertEqual(len(answer), len(whole) + 1)
            for word, (first, end) in zip(words, places):
                kinds = (4,) if word in SIGNS else (2, 3)
                self.assertEqual([one for one in answer[1 + first:1 + end] if one not in kinds], [], whole)


class NothingCounts(unittest.TestCase):
    def what_and_name(self, i, t):
        answer = decl(i, t)
        if answer == [-4]:
            return answer
        return answer[:2], t[answer[4]:answer[4] + answer[5]]

    def test_e4_notes_blanks_and_hexadecimal(self):
        for grower, words in grown(PROGRAMS):
            t = text(tight(words))
            parts = slow_parts(words)
            for other in (words, in_hexadecimal(words)):
                whole, places = laid_out(other, grower.fillers(words))
                s = text(whole)
                self.assertEqual((judge(s), write(s), same(t, s)), (judge(t), write(t), [1]), whole)
                for name in NAMES:
                    self.assertEqual(find(s, text(name)), find(t, text(name)), whole)
                for i in range(judge(t)[0] + 1):
                    self.assertEqual(self.what_and_name(i, t), self.what_and_name(i, s), whole)
                answers = part_answers(len(s), places, parts)
                for first, end in grower.source.sample(places, min(5, len(places))):
                    self.assertEqual((part(first, s), part(end - 1, s)), (answers[first], answers[end - 1]), whole)
                self.assertEqual([tokens(s)[3::4], tokens(s)[4::4]], [tokens(t)[3::4], tokens(t)[4::4]], whole)


class Behind(unittest.TestCase):
    def moved(self, answer, places, by):
        """An answer of which those numbers are places in a text that is moved."""
        return [number + by if place in places else number for place, number in enumerate(answer)]

    def test_e5_one_text_behind_another(self):
        others = [Grower(seed).program(60) for seed in range(PROGRAMS, PROGRAMS + 10)] + [[]]
        for grower, words in grown(PROGRAMS // 2, 60):
            # All the fillers' notes have their line's end: without it a note goes on into the next text.
            one = text(laid_out(words, grower.fillers(words))[0])
            after = grower.source.choice(others)
            two = text(laid_out(after, grower.fillers(after))[0])
            both = one + two
            first = judge(one)[0]
            last = judge(two)[0]
            self.assertEqual(judge(both), [first + last])
            self.assertEqual(write(both)[1:], write(one)[1:] + write(two)[1:])
            self.assertEqual(classes(both), classes(one) + classes(two)[1:])
            tokens_of_two = self.moved(tokens(two)[1:], range(0, 4 * len(after), 4), len(one))
            self.assertEqual(tokens(both), [len(words) + len(after)] + tokens(one)[1:] + tokens_of_two)
            for i in range(first + last + 1):
                answer = decl(i, one) if i < first else self.moved(decl(i - first, two), (2, 4), len(one))
                self.assertEqual(decl(i, both), answer)
            for name in NAMES:
                answer = find(one, text(name))
                if answer == [-5]:
                    answer = [number + first if number >= 0 else number for number in find(two, text(name))]
                self.assertEqual(find(both, text(name)), answer)
            for at in grower.source.sample(range(len(both)), min(20, len(both))):
                answer = part(at, one) if at < len(one) else self.moved(part(at - len(one), two), (2,), len(one))
                self.assertEqual(part(at, both), answer)


class Calls(unittest.TestCase):
    def test_what_is_handed_in_stays_and_a_call_answers_the_same_again(self):
        texts = []
        for grower, words in grown(30, 60):
            texts.append(text(laid_out(words, grower.fillers(words))[0]))
            texts.append(text(tight(next(broken(grower, words)))))
        names = [text(name) for name in NAMES] + [[], [65] * 32, [65] * 33, [36]]
        before = [list(one) for one in texts + names]
        first = [self.answers(t, names) for t in texts]
        again = [self.answers(t, names) for t in reversed(texts)]
        self.assertEqual(first, again[::-1])
        self.assertEqual(texts + names, before)
        for answers in first:
            for answer in answers:
                self.assertIs(answer.__class__, list)
                self.assertEqual([number for number in answer if number.__class__ is not int], [])

    def answers(self, t, names):
        """Of all eight calls, some of them several times."""
        answers = [judge(t), tokens(t), write(t), same(t, t), same(t, []), same([], t), classes(t)]
        answers.extend([decl(i, t) for i in (0, 1, 2, 3, 4294967295)])
        answers.extend([find(t, s) for s in names])
        answers.extend([part(at, t) for at in (0, 1, 7, len(t) - 1, len(t), 4294967295)])
        return answers

    def test_refusals_in_their_order(self):
        long = [36] * 1048577
        wrong = text("const A = 1; const")
        right = text("const A=1;")
        self.assertEqual([judge(long), tokens(long), write(long), same(long, right), same(right, long), same(wrong, long),
                          decl(9, long), find(long, right), find(wrong, [65] * 33), part(9, long), classes(long)], [[-1]] * 11)
        self.assertEqual([write(wrong), same(wrong, right), same(right, wrong), decl(0, wrong), decl(9, wrong),
                          find(wrong, [65]), find(wrong, [36]), part(0, wrong), part(99, wrong)], [[-2]] * 9)
        self.assertEqual((judge(wrong), judge([36]), tokens([36])), ([-2, 2, 18], [-2, 1, 0], [-2, 1, 0]))
        self.assertEqual((decl(1, right), find(right, [66]), part(10, right)), ([-4], [-5], [-5]))
        self.assertEqual((tokens(wrong)[0], classes([36])), (6, [0, 0]))


if __name__ == "__main__":
    unittest.main()
