"""Where the declarations of a program that is read stand in its text."""

from rilltexts.scanner import own_bytes

# In the order of their numbers.
DECLARATION_WORDS = ("const", "table", "fn", "node", "graph")


def first_byte(reading, node):
    return reading.found[node.first].first


def end_byte(reading, node):
    """The byte behind a node's last token: what is between that and the next one isn't the node's."""
    last = reading.found[node.behind - 1]
    return last.first + last.length


def place_told(reading, node):
    """A node's first byte and how many it has."""
    first = first_byte(reading, node)
    return [first, end_byte(reading, node) - first]


def name_token(reading, declaration):
    """In all five forms the name stands right behind the word with which the declaration begins."""
    return reading.found[declaration.first + 1]


def declaration_told(reading, declaration):
    what = DECLARATION_WORDS.index(reading.symbols[declaration.first])
    name = name_token(reading, declaration)
    return [what] + place_told(reading, declaration) + [name.first, name.length]


def declaration_named(t, reading, name):
    """The number of the first declaration that has this name; None if there is none."""
    for i, declaration in enumerate(reading.program.inner):
        if own_bytes(t, name_token(reading, declaration)) == name:
            return i
    return None
