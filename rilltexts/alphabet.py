"""What tokens are made of: kept words and signs in the order in which they are numbered."""

KEPT_WORDS = (
    "abs", "at", "const", "delay", "fn", "graph", "held", "let", "max", "min", "node", "round", "row", "sheet",
    "state", "sum", "table", "wrapped", "u8", "s8", "u16", "s16", "u32", "s32", "u64", "s64",
)

# The remainder's sign is called "mod" here: its own byte, 37, may not stand in a text of this program.
SIGNS = (
    "->", "<<", ">>", "<=", ">=", "==", "!=", "&&", "||", "+", "-", "*", "/", "mod", "&", "|", "^", "~", "!",
    "<", ">", "=", "?", ":", ";", ",", "@", "(", ")", "[", "]", "{", "}",
)

# Signs are looked up by their bytes, so that the one of byte 37 needs no way of its own.
SIGNS_OF_TWO = {
    (45, 62): 0, (60, 60): 1, (62, 62): 2, (60, 61): 3, (62, 61): 4, (61, 61): 5, (33, 61): 6, (38, 38): 7,
    (124, 124): 8,
}

SIGNS_OF_ONE = {
    43: 9, 45: 10, 42: 11, 47: 12, 37: 13, 38: 14, 124: 15, 94: 16, 126: 17, 33: 18, 60: 19, 62: 20, 61: 21,
    63: 22, 58: 23, 59: 24, 44: 25, 64: 26, 40: 27, 41: 28, 91: 29, 93: 30, 123: 31, 125: 32,
}

# The bytes from 48 to 122, so that a word's bytes can be turned into a text.
FROM_0_TO_Z = "0123456789:;<=>?@ABCDEFGHIJKLMNOPQRSTUVWXYZ[\\]^_`abcdefghijklmnopqrstuvwxyz"
