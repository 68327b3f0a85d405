"""The calls: each takes texts as lists of bytes and gives back one list of whole numbers."""

from rilltexts.reader import NOT_A_TOKEN
from rilltexts.reader import read_program
from rilltexts.scanner import NO_TOKEN
from rilltexts.scanner import scan
from rilltexts.writer import written_form

LONGEST_TEXT = 1048576


def judge(t):
    """How many declarations; or -2, the fault's kind and its place."""
    if len(t) > LONGEST_TEXT:
        return [-1]
    found = scan(t)
    reading = read_program(found)
    if reading.fault == 0:
        return [len(reading.program.inner)]
    if reading.at < len(found):
        return [-2, reading.fault, found[reading.at].first]
    return [-2, reading.fault, len(t)]


def tokens(t):
    """How many tokens, then of each its first byte, how many bytes, what and which; or -2, 1 and the place of the
    byte that begins none."""
    if len(t) > LONGEST_TEXT:
        return [-1]
    found = scan(t)
    if len(found) > 0 and found[-1].what == NO_TOKEN:
        return [-2, NOT_A_TOKEN, found[-1].first]
    answer = [len(found)]
    for token in found:
        answer.extend([token.first, token.length, token.what, token.which])
    return answer


def write(t):
    """How many bytes, then the written form."""
    if len(t) > LONGEST_TEXT:
        return [-1]
    form = written_form(t)
    if form is None:
        return [-2]
    return [len(form)] + form


def same(t, s):
    """1 if both have the same tree, 0 if not: they have it just if they are written alike."""
    if len(t) > LONGEST_TEXT or len(s) > LONGEST_TEXT:
        return [-1]
    form = written_form(t)
    if form is None:
        return [-2]
    other = written_form(s)
    if other is None:
        return [-2]
    return [1 if form == other else 0]
