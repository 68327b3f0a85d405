"""The calls: each takes texts as lists of bytes and gives back one list of whole numbers."""

from rilltexts.places import declaration_named
from rilltexts.places import declaration_told
from rilltexts.places import smallest_part_told
from rilltexts.reader import NOT_A_TOKEN
from rilltexts.reader import read_text
from rilltexts.scanner import NO_TOKEN
from rilltexts.scanner import byte_class
from rilltexts.scanner import scan
from rilltexts.writer import written_form

LONGEST_TEXT = 1048576
LONGEST_SOUGHT_NAME = 32


def judge(t):
    """How many declarations; or -2, the fault's kind and its place."""
    if len(t) > LONGEST_TEXT:
        return [-1]
    reading = read_text(t)
    if reading.fault == 0:
        return [len(reading.program.inner)]
    if reading.at < len(reading.found):
        return [-2, reading.fault, reading.found[reading.at].first]
    return [-2, reading.fault, len(t)]


def tokens(t):
    """How many tokens, then of each its first byte, how many bytes, what and which; or -2, 1 and the place of the
    byte that begins none."""
    if len(t) > LONGEST_TEXT:
        return [-1]
    found = scan(t)
    if len(found) > 0 and found[-1].what == NO_TOKEN:
        return [-2, NOT_A_TOKEN, found[-1].first]
    answer = [len(found)]
    for token in found:
        answer.extend([token.first, token.length, token.what, token.which])
    return answer


def write(t):
    """How many bytes, then the written form."""
    if len(t) > LONGEST_TEXT:
        return [-1]
    form = written_form(t)
    if form is None:
        return [-2]
    return [len(form)] + form


def same(t, s):
    """1 if both have the same tree, 0 if not: they have it just if they are written alike."""
    if len(t) > LONGEST_TEXT or len(s) > LONGEST_TEXT:
        return [-1]
    form = written_form(t)
    if form is None:
        return [-2]
    other = written_form(s)
    if other is None:
        return [-2]
    return [1 if form == other else 0]


def decl(i, t):
    """0, then of declaration i what it is, its first byte, how many bytes, where its name begins and how many bytes
    that has; -4 if there is none."""
    if len(t) > LONGEST_TEXT:
        return [-1]
    reading = read_text(t)
    if reading.fault > 0:
        return [-2]
    if i >= len(reading.program.inner):
        return [-4]
    return [0] + declaration_told(reading, reading.program.inner[i])


def find(t, s):
    """Which declaration is the first with the name s; -5 if there is none."""
    if len(t) > LONGEST_TEXT or len(s) > LONGEST_SOUGHT_NAME:
        return [-1]
    reading = read_text(t)
    if reading.fault > 0:
        return [-2]
    i = declaration_named(t, reading, s)
    return [-5] if i is None else [i]


def part(at, t):
    """0, then of the smallest part in which byte at lies what it is, its first byte, how many bytes and how deep it
    stands; -5 if the byte lies in none."""
    if len(t) > LONGEST_TEXT:
        return [-1]
    reading = read_text(t)
    if reading.fault > 0:
        return [-2]
    told = smallest_part_told(reading, at)
    return [-5] if told is None else [0] + told


def classes(t):
    """0, then of each byte its class, whether the text is a program's or not."""
    if len(t) > LONGEST_TEXT:
        return [-1]
    return [0] + [byte_class(byte) for byte in t]
