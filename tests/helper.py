"""What the tests share: texts as lists of bytes, and a slow reading of them straight from the document's grammar.

The slow reading knows nothing of how the program reads: it keeps every way in which the grammar's words can go on,
and looks which of them take the next token. It knows the faults 1, 2 and 3, not the counts of fault 4.
"""

import re

KEPT_WORDS = ("abs at const delay fn graph held let max min node round row sheet state sum table wrapped"
              " u8 s8 u16 s16 u32 s32 u64 s64").split()
DECLARATION_WORDS = ("const", "table", "fn", "node", "graph")
SIGNS = "-> << >> <= >= == != && || + - * / % & | ^ ~ ! < > = ? : ; , @ ( ) [ ] { }".split()

# What may stand between two tokens.
FILLERS = (" ", "\n", "  \n \n\n", "//\n", " // a note: const ( [ { $ \x00 \xff \" ; // \n", "\n////\n // \n ")

GRAMMAR = r'''
program = { decl }
decl  = "const" name "=" e ";" | "table" name ":" code "=" "[" e { "," e } "]" ";" | "fn" name "(" name { "," name } ")" "=" e ";" | "node" name "(" port { "," port } ")" "->" "(" port { "," port } ")" "{" { state } { do } "}" | "graph" name "(" end { "," end } ")" "->" "(" end { "," end } ")" "{" { wire } "}"
code  = "u8" | "s8" | "u16" | "s16" | "u32" | "s32" | "u64" | "s64"
kind  = code [ "[" e [ "," e ] "]" ]
port  = name ":" kind [ "/" size ]
end   = name ":" kind "at" size [ "/" size ]
state = "state" name ":" kind "=" e ";"
do    = "let" name "=" e ";" | name [ "[" e "]" ] "=" e ";"
wire  = name { "," name } "=" name "(" name { "," name } ")" ";" | name "=" "delay" size "(" e ")" "(" name ")" ";" | name "=" name ";"
size  = number | name | "(" e ")"
e     = or [ "?" e ":" e ] | ( "sum" | "row" ) name "<" size ":" e | "sheet" name "," name "<" size "," size ":" e
or    = and { "||" and }
and   = cmp { "&&" cmp }
cmp   = bor [ ( "<" | "<=" | "==" | "!=" | ">" | ">=" ) bor ]
bor   = bxor { "|" bxor }
bxor  = band { "^" band }
band = shift { "&" shift }
shift = add { ( "<<" | ">>" ) add }
add   = mul { ( "+" | "-" ) mul }
mul   = one { ( "*" | "/" | "%" ) one }
one   = ( "-" | "~" | "!" ) one | post
post  = atom { "[" e [ "," e ] "]" | "@" size }
atom  = number | name | name "(" e { "," e } ")" | "(" e ")" | ( "held" | "wrapped" ) code "(" e ")" | "round" "(" e "," e ")" | "abs" "(" e ")" | ( "min" | "max" ) "(" e "," e ")"
'''


def text(words):
    """The bytes of a text written in Latin 1."""
    return list(words.encode("latin-1"))


def number_of_token(word):
    """What and which, as `tokens` answers them, of one right token."""
    if word in KEPT_WORDS:
        return [2, KEPT_WORDS.index(word)]
    if word in SIGNS:
        return [3, SIGNS.index(word)]
    return [1, 0] if word[0].isdigit() else [0, 0]


def spaced(words):
    """The text of tokens with one blank between, and where each begins; the text's length last."""
    places = []
    length = 0
    for word in words:
        places.append(length)
        length += len(word) + 1
    written = " ".join(words)
    return text(written), places + [len(written)]


TOKEN = r"\w+|->|<<|>>|[<>=!]=|&&|\|\||\S"


def words_of(written):
    """The tokens of a right text without notes."""
    return re.findall(TOKEN, written)


def written(words):
    """What `write` answers for a text whose written form has these words."""
    return [len(words)] + text(words)


def filled_with(filler, words):
    """The text of tokens with a filler between each two."""
    # Right behind a / a note would begin with that.
    return filler.join([word + " " if word == "/" else word for word in words])


def laid_out(words, fillers):
    """The text of tokens with fillers ahead of, between and behind them (one for all, or one for each place), and where
    each token begins and ends. A blank is there where it must stand."""
    if isinstance(fillers, str):
        fillers = [fillers] * (len(words) + 1)
    answer = fillers[0]
    places = []
    for word, filler in zip(words, fillers[1:]):
        if re.search(r"\w\Z", answer) and re.match(r"\w", word):
            answer += " "
        places.append((len(answer), len(answer) + len(word)))
        # Right behind a / a note would begin with that.
        answer += word + (" " if word == "/" and filler else "") + filler
    return answer, places


def tight(words):
    """The text of tokens with a blank just where it must stand."""
    return laid_out(words, "")[0]


def in_hexadecimal(words):
    return [f"0x{int(word):X}" if word.isdigit() else word for word in words]


def marked(words):
    """A text in which the parts are marked («5 begins one that's a 5, » ends it): its tokens, and of each part what it
    is, its first token and the one behind it."""
    found = []
    parts = []
    begun = []
    for piece in re.findall(r"«\d|»|" + TOKEN, words):
        if piece[0] == "«":
            begun.append((int(piece[1]), len(found)))
        elif piece == "»":
            parts.append(begun.pop() + (len(found),))
        else:
            found.append(piece)
    return found, parts


def part_answers(length, places, parts):
    """What `part` answers at each byte of a text of that length, if its tokens have these places and it these parts."""
    answers = [[-5]] * length
    for what, first, behind in sorted(parts, key=lambda part: part[1] - part[2]):
        depth = sum(one[1] <= first and behind <= one[2] for one in parts) - 1
        begin = places[first][0]
        end = places[behind - 1][1]
        answers[begin:end] = [[0, what, begin, end - begin, depth]] * (end - begin)
    return answers


# --- the grammar's words as trees: ("alt", ..), ("seq", ..), ("rep", x), ("opt", x), ("rule", n), ("token", s)

def read_alternatives(pieces):
    ways = [read_sequence(pieces)]
    while pieces and pieces[0] == "|":
        pieces.pop(0)
        ways.append(read_sequence(pieces))
    return ways[0] if len(ways) == 1 else ("alt",) + tuple(ways)


def read_sequence(pieces):
    parts = []
    while pieces and pieces[0] not in ("|", ")", "]", "}"):
        piece = pieces.pop(0)
        if piece in ("(", "[", "{"):
            inner = read_alternatives(pieces)
            pieces.pop(0)
            parts.append({"(": inner, "[": ("opt", inner), "{": ("rep", inner)}[piece])
        elif piece[0] == '"':
            parts.append(("token", piece[1:-1]))
        elif piece in ("name", "number"):
            parts.append(("token", piece))
        else:
            parts.append(("rule", piece))
    return ("seq",) + tuple(parts)


def read_grammar():
    rules = {}
    for line in GRAMMAR.strip().split("\n"):
        name, body = line.split("=", 1)
        rules[name.strip()] = read_alternatives(re.findall(r'"[^"]*"|[^\s"]+', body))
    return rules


RULES = read_grammar()
DEEP_RULES = ("e", "one", "atom", "size")
BEGINNING = frozenset([((("rule", "program"), 0), None)])


def expand(stack, deep, found):
    """Goes on from a stack to every token that may come next: (token, the stack behind it, whether too deep)."""
    if stack is None:
        found.add(("finish", None, deep))
        return
    (node, depth), rest = stack
    form = node[0]
    if form == "token":
        found.add((node[1], rest, deep))
    elif form == "rule":
        inside = depth
        if node[1] in DEEP_RULES:
            deep = deep or depth > 128
            inside = depth + 1
        expand(((RULES[node[1]], inside), rest), deep, found)
    elif form == "seq":
        for part in reversed(node[1:]):
            rest = ((part, depth), rest)
        expand(rest, deep, found)
    elif form == "alt":
        for way in node[1:]:
            expand(((way, depth), rest), deep, found)
    else:
        expand(rest, deep, found)
        again = rest if form == "opt" else (((node, depth), rest))
        expand(((node[1], depth), again), deep, found)


def can_come(stacks):
    found = set()
    for stack in stacks:
        expand(stack, False, found)
    return found


def grammars_word(word):
    if word in KEPT_WORDS or word in SIGNS or word == "finish":
        return word
    if re.fullmatch(r"[A-Za-z_][A-Za-z0-9_]{0,31}", word):
        return "name"
    return "number" if re.fullmatch(r"[0-9]+|0x[0-9A-F]+", word) else "no token"


def go_on(coming, word):
    """The stacks behind a token, or the fault's kind."""
    word = grammars_word(word)
    if word == "no token":
        return 1
    takers = [taker for taker in coming if taker[0] == word]
    if not takers:
        return 2
    right = frozenset(taker[1] for taker in takers if not taker[2])
    return right if right else 3


def slow_judge(words):
    """Judges a row of tokens: what `judge` answers to them with one blank between."""
    return slow_judge_from(BEGINNING, words, 0)


def slow_judge_from(stacks, words, at):
    places = spaced(words)[1]
    declared = sum(word in DECLARATION_WORDS for word in words)
    for place in range(at, len(words) + 1):
        stacks = go_on(can_come(stacks), words[place] if place < len(words) else "finish")
        if isinstance(stacks, int):
            return [-2, stacks, places[place]]
    return [declared]


# --- a slow reading of right texts to their trees: tuples in which parentheses and hexadecimal count for nothing

ROWS = ("or", "and", "cmp", "bor", "bxor", "band", "shift", "add", "mul")


def readings(node, words, at):
    """Every way in which a part of the grammar's words takes tokens from here on: what it took, and where it ends."""
    form = node[0]
    if form == "token":
        if at < len(words) and grammars_word(words[at]) == node[1]:
            yield [words[at]], at + 1
    elif form == "rule":
        for took, end in readings(RULES[node[1]], words, at):
            yield [(node[1], took)], end
    elif form == "alt":
        for way in node[1:]:
            yield from readings(way, words, at)
    elif form == "seq":
        yield from readings_of_all(node[1:], words, at)
    else:
        again = (node[1],) if form == "opt" else (node[1], node)
        yield from readings_of_all(again, words, at)
        yield [], at


def readings_of_all(nodes, words, at):
    if not nodes:
        yield [], at
        return
    for took, end in readings(nodes[0], words, at):
        for more, last in readings_of_all(nodes[1:], words, end):
            yield took + more, last


def left_row(parts):
    """a - b - c as (a - b) - c."""
    tree = parts[0]
    for place in range(1, len(parts), 2):
        tree = (parts[place], tree, parts[place + 1])
    return tree


def left_post(parts):
    """a[1]@2 as (a[1])@2."""
    tree = parts.pop(0)
    while parts:
        size = 2 if parts[0] == "@" else parts.index("]") + 1
        tree = ("post", tree) + tuple(parts[:size])
        parts = parts[size:]
    return tree


def shaped(node):
    if isinstance(node, str):
        return int(node, 0) if node[0].isdigit() else node
    rule = node[0]
    parts = [shaped(part) for part in node[1]]
    if rule in ROWS:
        return left_row(parts)
    if rule == "post":
        return left_post(parts)
    if rule in ("atom", "size") and parts[0] == "(":
        return parts[1]
    if rule in ("e", "one", "atom", "size") and len(parts) == 1:
        return parts[0]
    return (rule,) + tuple(parts)


def slow_reading(words):
    for took, end in readings(("rule", "program"), words, 0):
        if end == len(words):
            return took[0]


def slow_tree(words):
    """The tree of a row of tokens; None if they are no program."""
    if slow_judge(words)[0] < 0:
        return None
    return shaped(slow_reading(words))


# --- the parts, told from the slow reading

PARTS_OF_RULES = {"decl": 0, "port": 1, "end": 1, "state": 2, "do": 3, "wire": 4}


def parts_of_rule(rule, took, first, ends):
    """The parts that one rule makes, of what it took and where each piece of that ends."""
    last = ends[-1] if ends else first
    if rule in PARTS_OF_RULES:
        return [(PARTS_OF_RULES[rule], first, last)]
    if rule in ROWS:
        return [(5, first, end) for end in ends[2::2]]
    if rule == "post":
        return [(7, first, end) for place, end in enumerate(ends) if "]" == took[place] or "@" in took[:place][-1:]]
    if rule == "atom":
        return [(8 if last - first == 1 else 7, first, last)]
    if rule in ("e", "one") and len(took) > 1:
        return [(5 if rule == "e" else 6, first, last)]
    return []


def put_parts(node, first, parts):
    """Puts a reading's parts behind the others, and gives back where it ends."""
    if isinstance(node, str):
        return first + 1
    rule, took = node
    ends = []
    for piece in took:
        ends.append(put_parts(piece, ends[-1] if ends else first, parts))
    parts.extend(parts_of_rule(rule, took, first, ends))
    return ends[-1] if ends else first


def slow_parts(words):
    """The parts of a program's tokens: of each what it is, its first token and the one behind it."""
    parts = []
    put_parts(slow_reading(words), 0, parts)
    return parts


def pairs_of(words):
    waiting = []
    pairs = []
    for place, word in enumerate(words):
        if word == "(":
            waiting.append(place)
        elif word == ")":
            pairs.append((waiting.pop(), place))
    return pairs


def without_needless(words):
    """The tokens without each pair of parentheses that can go and leave the tree as it is."""
    tree = slow_tree(words)
    going = True
    while going:
        going = False
        for first, last in pairs_of(words):
            fewer = words[:first] + words[first + 1:last] + words[last + 1:]
            if slow_tree(fewer) == tree:
                words = fewer
                going = True
                break
    return words
