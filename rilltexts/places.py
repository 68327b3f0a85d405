"""Where the declarations and parts of a program that is read stand in its text."""

from rilltexts.scanner import own_bytes

# In the order of their numbers.
DECLARATION_WORDS = ("const", "table", "fn", "node", "graph")

# Of the tree's nodes those that are parts; but an atom of one token has a number of its own. A size is none.
PART_NUMBERS = {
    "DECL": 0, "PORT": 1, "END": 1, "STATE": 2, "DO": 3, "WIRE": 4, "OPERATOR": 5, "CHOICE": 5, "SUM": 5, "SIGNED": 6,
    "POST": 7, "ATOM": 7,
}
ATOM_OF_ONE_TOKEN = 8


def first_byte(reading, node):
    return reading.found[node.first].first


def end_byte(reading, node):
    """The byte behind a node's last token: what is between that and the next one isn't the node's."""
    last = reading.found[node.behind - 1]
    return last.first + last.length


def place_told(reading, node):
    """A node's first byte and how many it has."""
    first = first_byte(reading, node)
    return [first, end_byte(reading, node) - first]


def name_token(reading, declaration):
    """In all five forms the name stands right behind the word with which the declaration begins."""
    return reading.found[declaration.first + 1]


def declaration_told(reading, declaration):
    what = DECLARATION_WORDS.index(reading.symbols[declaration.first])
    name = name_token(reading, declaration)
    return [what] + place_told(reading, declaration) + [name.first, name.length]


def declaration_named(t, reading, name):
    """The number of the first declaration that has this name; None if there is none."""
    for i, declaration in enumerate(reading.program.inner):
        if own_bytes(t, name_token(reading, declaration)) == name:
            return i
    return None


def part_number(node):
    """Which part a node is; None if it is none."""
    if node.kind == "ATOM" and node.behind - node.first == 1:
        return ATOM_OF_ONE_TOKEN
    return PART_NUMBERS.get(node.kind)


def inner_at(reading, node, at):
    """The one of a node's inner nodes in which a byte lies; None if it lies in none of them."""
    for inner in node.inner:
        if first_byte(reading, inner) <= at < end_byte(reading, inner):
            return inner
    return None


def smallest_part_told(reading, at):
    """Of the smallest part in which a byte lies: what, where, and in how many others; None if it lies in none."""
    answer = None
    depth = 0
    node = inner_at(reading, reading.program, at)
    while node is not None:
        what = part_number(node)
        if what is not None:
            answer = [what] + place_told(reading, node) + [depth]
            depth += 1
        node = inner_at(reading, node, at)
    return answer
