"""The one way of writing a program: which of its tokens are written, and what stands between them."""

from rilltexts.reader import read_text
from rilltexts.scanner import BLANK
from rilltexts.scanner import LINE_END
from rilltexts.scanner import NUMBER
from rilltexts.scanner import number_value
from rilltexts.scanner import own_bytes
from rilltexts.tree import all_nodes
from rilltexts.tree import are_needless

NONE_AHEAD = (";", ",", ")", "]", "@", ":")
NONE_BEHIND = ("(", "[", "@", "one's sign")
# A number ahead of a ( can be delay's size alone.
NONE_AHEAD_OF_PARENTHESIS = (
    "name", "number", "u8", "s8", "u16", "s16", "u32", "s32", "u64", "s64", ")", "round", "abs", "min", "max",
)
LINE_ENDS = ("{", ";", "}")


def looks_of(reading):
    """Of each token what it is in the grammar; but a one's sign, a choice's colon and needless parentheses are told
    apart, as they are written otherwise."""
    looks = list(reading.symbols)
    for node in all_nodes(reading.program):
        if are_needless(node):
            looks[node.first] = "needless"
            looks[node.behind - 1] = "needless"
        elif node.kind == "SIGNED":
            looks[node.first] = "one's sign"
        elif node.kind == "CHOICE":
            looks[node.inner[1].behind] = "choice's colon"
    return looks


def stand_apart(before, look):
    """Whether a blank stands between two tokens of one line."""
    if look in NONE_AHEAD or before in NONE_BEHIND:
        return False
    if look == "(":
        return before not in NONE_AHEAD_OF_PARENTHESIS
    if look == "[":
        # Only a table's stands behind a =.
        return before == "="
    return True


def blanks_ahead(before, look, in_braces):
    if before in LINE_ENDS:
        return 2 if in_braces and look != "}" else 0
    return 1 if stand_apart(before, look) else 0


def written_bytes(t, token):
    run = own_bytes(t, token)
    if token.what == NUMBER:
        return [ord(digit) for digit in str(number_value(run))]
    return run


def written_tokens(t, reading):
    answer = []
    before = ";"
    in_braces = False
    for token, look in zip(reading.found, looks_of(reading)):
        if look != "needless":
            answer.extend([BLANK] * blanks_ahead(before, look, in_braces))
            answer.extend(written_bytes(t, token))
            if look in LINE_ENDS:
                answer.append(LINE_END)
            in_braces = look == "{" or (in_braces and look != "}")
            before = look
    return answer


def written_form(t):
    """A text's written form; None if it is no program's text."""
    reading = read_text(t)
    if reading.fault > 0:
        return None
    return written_tokens(t, reading)
