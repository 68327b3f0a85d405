"""The tree of a program's text, made of the grammar's rules as they are read to their ends, inner ones first.

Parentheses stay in it, each pair with the least that may stand in its place without them; which of them are needed
is so told by the tree alone.
"""

# How strong a node binds what is in it, from what begins with sum, row, sheet to a number or name by itself.
SUM_STRENGTH = 0
CHOICE_STRENGTH = 1
COMPARISON_STRENGTH = 4
SIGNED_STRENGTH = 11
POST_STRENGTH = 12
WORD_STRENGTH = 13

OPERATOR_STRENGTHS = {
    "||": 2, "&&": 3, "<": 4, "<=": 4, "==": 4, "!=": 4, ">": 4, ">=": 4, "|": 5, "^": 6, "&": 7, "<<": 8, ">>": 8,
    "+": 9, "-": 9, "*": 10, "/": 10, "mod": 10,
}

SIGNS_OF_A_ONE = ("-", "~", "!")
BEGINNINGS_OF_A_SUM = ("sum", "row", "sheet")


class Node:
    """What it is, its tokens from the first up to, but not, the one behind it, the nodes in it, whether it is but
    parentheses around the one in it, how strong it binds, and the least strength that may stand in its place without
    parentheses."""

    def __init__(self, kind, first):
        self.kind = kind
        self.first = first
        self.behind = first
        self.inner = []
        self.is_pair = False
        self.strength = WORD_STRENGTH
        self.least = SUM_STRENGTH


def node_around(kind, inner, behind, strength):
    """A node that begins with the first one of those in it."""
    node = Node(kind, inner[0].first)
    node.behind = behind
    node.inner = inner
    node.strength = strength
    return node


def join_last(operands, strengths):
    """Makes the last two operands one, by the last operator."""
    strength = strengths.pop()
    right = operands.pop()
    left = operands.pop()
    left.least = strength + 1 if strength == COMPARISON_STRENGTH else strength
    right.least = strength + 1
    operands.append(node_around("OPERATOR", [left, right], right.behind, strength))


def folded_operators(node, symbols):
    """A row of operands with operators between, joined from the left, the stronger ones first."""
    operands = [node.inner[0]]
    strengths = []
    for operand in node.inner[1:]:
        strength = OPERATOR_STRENGTHS[symbols[operand.first - 1]]
        while strengths and strengths[-1] >= strength:
            join_last(operands, strengths)
        strengths.append(strength)
        operands.append(operand)
    while strengths:
        join_last(operands, strengths)
    return operands[0]


def folded_post(node):
    """An atom and what is behind it, joined from the left."""
    post = node.inner[0]
    for part in node.inner[1:]:
        post.least = POST_STRENGTH
        post = node_around("POST", [post] + part.inner, part.behind, POST_STRENGTH)
    return post


def finished_e(node, symbols):
    if symbols[node.first] in BEGINNINGS_OF_A_SUM:
        node.kind = "SUM"
        node.strength = SUM_STRENGTH
        return node
    if len(node.inner) == 1:
        return node.inner[0]
    condition = node.inner[0]
    condition.least = CHOICE_STRENGTH + 1
    node.kind = "CHOICE"
    node.strength = CHOICE_STRENGTH
    return node


def finished_one(node, symbols):
    if symbols[node.first] not in SIGNS_OF_A_ONE:
        return folded_post(node)
    operand = node.inner[0]
    operand.least = SIGNED_STRENGTH
    node.kind = "SIGNED"
    node.strength = SIGNED_STRENGTH
    return node


def finished_atom_or_size(node, symbols):
    if symbols[node.first] == "(":
        node.least = WORD_STRENGTH if node.kind == "SIZE" else SUM_STRENGTH
        node.is_pair = True
        # They bind as what is in them, as that is what would stand in their place.
        node.strength = node.inner[0].strength
    elif node.behind - node.first > 1:
        node.strength = POST_STRENGTH
    return node


def finished(node, symbols):
    """What a rule that is read to its end is in the tree: a node, or the one in it if it adds nothing to that."""
    if node.kind == "E":
        return finished_e(node, symbols)
    if node.kind == "OR":
        return folded_operators(node, symbols)
    if node.kind == "ONE":
        return finished_one(node, symbols)
    if node.kind == "ATOM" or node.kind == "SIZE":
        return finished_atom_or_size(node, symbols)
    return node


def are_needless(node):
    """Whether a node is parentheses around what could stand there without them."""
    return node.is_pair and node.strength >= node.least


def all_nodes(node):
    """A node and all that stand in it, however deep."""
    found = []
    waiting = [node]
    while waiting:
        node = waiting.pop()
        found.append(node)
        waiting.extend(node.inner)
    return found
