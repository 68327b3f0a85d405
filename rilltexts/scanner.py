"""Cuts a text's bytes into tokens."""

from rilltexts.alphabet import FROM_0_TO_Z
from rilltexts.alphabet import KEPT_WORDS
from rilltexts.alphabet import SIGNS_OF_ONE
from rilltexts.alphabet import SIGNS_OF_TWO

NAME = 0
NUMBER = 1
KEPT = 2
SIGN = 3
NO_TOKEN = 4

LONGEST_WORD = 32
LARGEST_NUMBER = 9223372036854775807
MOST_DIGITS = 19
MOST_HEX_DIGITS = 16

OTHER_CLASS = 0
BLANK_CLASS = 1
LETTER_CLASS = 2
DIGIT_CLASS = 3
SIGN_CLASS = 4

BLANK = 32
LINE_END = 10
SLASH = 47
ZERO = 48
SMALL_X = 120


class Token:
    """Where a token stands, what it is, and which of its sort."""

    def __init__(self, first, length, what, which):
        self.first = first
        self.length = length
        self.what = what
        self.which = which


def is_digit(byte):
    return 48 <= byte <= 57


def is_letter(byte):
    return 97 <= byte <= 122 or 65 <= byte <= 90 or byte == 95


def is_blank(byte):
    return byte == BLANK or byte == LINE_END


def is_word_byte(byte):
    return is_letter(byte) or is_digit(byte)


def byte_class(byte):
    if is_blank(byte):
        return BLANK_CLASS
    if is_letter(byte):
        return LETTER_CLASS
    if is_digit(byte):
        return DIGIT_CLASS
    # The bytes of longer signs are signs by themselves too.
    if byte in SIGNS_OF_ONE:
        return SIGN_CLASS
    return OTHER_CLASS


def begins_note(t, at):
    return t[at] == SLASH and at + 1 < len(t) and t[at + 1] == SLASH


def note_end(t, at):
    while at < len(t) and t[at] != LINE_END:
        at += 1
    return at


def behind_blanks(t, at):
    while at < len(t):
        if is_blank(t[at]):
            at += 1
        elif begins_note(t, at):
            at = note_end(t, at)
        else:
            return at
    return at


def run_end(t, at):
    while at < len(t) and is_word_byte(t[at]):
        at += 1
    return at


def digit_value(byte):
    """What a digit counts; 16, which no base here has, for what is none."""
    if is_digit(byte):
        return byte - 48
    if 65 <= byte <= 70:
        return byte - 55
    return 16


def value_of_digits(digits, base):
    number = 0
    for digit in digits:
        number = number * base + digit_value(digit)
    return number


def are_digits(digits, base, most):
    """Whether a number may be written so: its length is asked first, as a run may be as long as its text."""
    if len(digits) == 0 or len(digits) > most:
        return False
    if digits[0] == ZERO and len(digits) > 1:
        return False
    for digit in digits:
        if digit_value(digit) >= base:
            return False
    return value_of_digits(digits, base) <= LARGEST_NUMBER


def is_hexadecimal(run):
    return len(run) > 1 and run[0] == ZERO and run[1] == SMALL_X


def is_number(run):
    if is_hexadecimal(run):
        return are_digits(run[2:], 16, MOST_HEX_DIGITS)
    return are_digits(run, 10, MOST_DIGITS)


def number_value(run):
    """What a right number counts."""
    if is_hexadecimal(run):
        return value_of_digits(run[2:], 16)
    return value_of_digits(run, 10)


def run_token(t, at):
    """The token of all letters, digits and _ that stand together here."""
    run = t[at:run_end(t, at)]
    if is_digit(run[0]):
        return Token(at, len(run), NUMBER if is_number(run) else NO_TOKEN, 0)
    if len(run) > LONGEST_WORD:
        return Token(at, len(run), NO_TOKEN, 0)
    word = "".join([FROM_0_TO_Z[byte - 48] for byte in run])
    if word in KEPT_WORDS:
        return Token(at, len(run), KEPT, KEPT_WORDS.index(word))
    return Token(at, len(run), NAME, 0)


def own_bytes(t, token):
    """A token's own bytes."""
    return t[token.first:token.first + token.length]


def sign_token(t, at):
    if at + 1 < len(t) and (t[at], t[at + 1]) in SIGNS_OF_TWO:
        return Token(at, 2, SIGN, SIGNS_OF_TWO[(t[at], t[at + 1])])
    if t[at] in SIGNS_OF_ONE:
        return Token(at, 1, SIGN, SIGNS_OF_ONE[t[at]])
    return Token(at, 1, NO_TOKEN, 0)


def scan(t):
    """The text's tokens; if some byte begins no token, the last is that one, and nothing behind it is looked at."""
    found = []
    at = behind_blanks(t, 0)
    while at < len(t):
        token = run_token(t, at) if is_word_byte(t[at]) else sign_token(t, at)
        found.append(token)
        if token.what == NO_TOKEN:
            return found
        at = behind_blanks(t, at + token.length)
    return found
