"""The grammar: of each rule its ways, and of each way what stands in it from the left.

A rule is written in capitals, a token as it is in a text ("name", "number" and "mod" stand for theirs).
("maybe", X, 1) is X or nothing; ("many", X, n) is X as often as it comes, n times at most;
("more", X, n) is a comma and X as often as they come, n times at most.

The ways of a rule begin with different tokens, and what may follow a "maybe", "many" or "more" begins otherwise
than it does: so the next token alone always tells how to go on.
"""

# Operators of all strengths stand in one row, as how strong they bind doesn't change which tokens can stand where;
# only comparisons are told apart, as two of them need a || or && between. Of these rows there is no limit: no text
# is long enough for 1048576 of them.
GRAMMAR = {
    "DECL": (
        ("const", "name", "=", "E", ";"),
        ("table", "name", ":", "CODE", "=", "[", "E", ("more", "E", 65535), "]", ";"),
        ("fn", "name", "(", "name", ("more", "name", 255), ")", "=", "E", ";"),
        ("node", "name", "(", "PORT", ("more", "PORT", 255), ")", "->", "(", "PORT", ("more", "PORT", 255), ")",
         "{", ("many", "STATE", 256), ("many", "DO", 256), "}"),
        ("graph", "name", "(", "END", ("more", "END", 255), ")", "->", "(", "END", ("more", "END", 255), ")",
         "{", ("many", "WIRE", 256), "}"),
    ),
    "CODE": (("u8",), ("s8",), ("u16",), ("s16",), ("u32",), ("s32",), ("u64",), ("s64",)),
    "KIND": (("CODE", ("maybe", "INDEXES", 1)),),
    "PORT": (("name", ":", "KIND", ("maybe", "DIVISOR", 1)),),
    "END": (("name", ":", "KIND", "at", "SIZE", ("maybe", "DIVISOR", 1)),),
    "DIVISOR": (("/", "SIZE"),),
    "STATE": (("state", "name", ":", "KIND", "=", "E", ";"),),
    "DO": (
        ("let", "name", "=", "E", ";"),
        ("name", ("maybe", "INDEX", 1), "=", "E", ";"),
    ),
    "WIRE": (("name", "WIRE_NAMED"),),
    "WIRE_NAMED": (
        (",", "name", ("more", "name", 254), "=", "name", "WIRE_INPUTS"),
        ("=", "WIRE_SOURCE"),
    ),
    "WIRE_SOURCE": (
        ("delay", "SIZE", "(", "E", ")", "(", "name", ")", ";"),
        ("name", "WIRE_TAKEN"),
    ),
    "WIRE_TAKEN": (("WIRE_INPUTS",), (";",)),
    "WIRE_INPUTS": (("(", "name", ("more", "name", 255), ")", ";"),),
    "SIZE": (("number",), ("name",), ("(", "E", ")")),
    "E": (
        ("OR", ("maybe", "CHOICE", 1)),
        ("sum", "name", "<", "SIZE", ":", "E"),
        ("row", "name", "<", "SIZE", ":", "E"),
        ("sheet", "name", ",", "name", "<", "SIZE", ",", "SIZE", ":", "E"),
    ),
    "CHOICE": (("?", "E", ":", "E"),),
    "OR": (("COMPARISON", ("many", "JOINED", 1048576)),),
    "JOINED": (("||", "COMPARISON"), ("&&", "COMPARISON")),
    "COMPARISON": (("FORMULA", ("maybe", "COMPARED", 1)),),
    "COMPARED": (
        ("<", "FORMULA"), ("<=", "FORMULA"), ("==", "FORMULA"),
        ("!=", "FORMULA"), (">", "FORMULA"), (">=", "FORMULA"),
    ),
    "FORMULA": (("ONE", ("many", "OPERATED", 1048576)),),
    "OPERATED": (
        ("|", "ONE"), ("^", "ONE"), ("&", "ONE"), ("<<", "ONE"), (">>", "ONE"),
        ("+", "ONE"), ("-", "ONE"), ("*", "ONE"), ("/", "ONE"), ("mod", "ONE"),
    ),
    "ONE": (("-", "ONE"), ("~", "ONE"), ("!", "ONE"), ("ATOM", ("many", "BEHIND", 1048576))),
    "BEHIND": (("INDEXES",), ("@", "SIZE")),
    "INDEX": (("[", "E", "]"),),
    "INDEXES": (("[", "E", ("maybe", "SECOND", 1), "]"),),
    "SECOND": ((",", "E"),),
    "ATOM": (
        ("number",),
        ("name", ("maybe", "CALLED", 1)),
        ("(", "E", ")"),
        ("held", "CODE", "(", "E", ")"),
        ("wrapped", "CODE", "(", "E", ")"),
        ("round", "(", "E", ",", "E", ")"),
        ("abs", "(", "E", ")"),
        ("min", "(", "E", ",", "E", ")"),
        ("max", "(", "E", ",", "E", ")"),
    ),
    "CALLED": (("(", "E", ("more", "E", 255), ")"),),
}


def first_tokens(symbol):
    """The tokens with which a rule can begin; a token begins with itself."""
    found = []
    waiting = [symbol]
    while waiting:
        symbol = waiting.pop()
        if symbol in GRAMMAR:
            waiting.extend([way[0] for way in GRAMMAR[symbol]])
        else:
            found.append(symbol)
    return found


def full_part(part):
    if isinstance(part, str):
        return ("once", part, 1)
    return part


def ways_by_token():
    """Of each rule and each token with which it can begin, the one way that begins so."""
    ways = {}
    for rule in GRAMMAR:
        for way in GRAMMAR[rule]:
            parts = tuple([full_part(part) for part in way])
            for token in first_tokens(way[0]):
                ways[(rule, token)] = parts
    return ways
