"""Reads a text's tokens by the grammar, up to the text's end or the first fault."""

from rilltexts.alphabet import KEPT_WORDS
from rilltexts.alphabet import SIGNS
from rilltexts.grammar import ways_by_token
from rilltexts.scanner import KEPT
from rilltexts.scanner import NAME
from rilltexts.scanner import NUMBER
from rilltexts.scanner import SIGN
from rilltexts.scanner import scan
from rilltexts.tree import finished
from rilltexts.tree import Node

NOT_A_TOKEN = 1
CANT_STAND = 2
TOO_DEEP = 3
TOO_MANY = 4

MOST_DECLARATIONS = 4096
DEEPEST = 128
RULES_THAT_COUNT_AS_DEEP = ("E", "ONE", "ATOM", "SIZE")
RULES_IN_THE_TREE = ("DECL", "PORT", "END", "STATE", "DO", "WIRE", "SIZE", "E", "OR", "ONE", "ATOM", "BEHIND")


class Frame:
    """What is still to come: in which form, how many of it may still come, and in how many others it stands."""

    def __init__(self, form, symbol, room, depth):
        self.form = form
        self.symbol = symbol
        self.room = room
        self.depth = depth


def symbol_of(token):
    """What the grammar calls a token; "nothing" is in no rule."""
    if token.what == NAME:
        return "name"
    if token.what == NUMBER:
        return "number"
    if token.what == KEPT:
        return KEPT_WORDS[token.which]
    if token.what == SIGN:
        return SIGNS[token.which]
    return "nothing"


class Reading:
    """How far a text is read: its tokens as they were found and as the grammar calls them, at which of them it is,
    and the tree up to there. What is still to come is a list of frames, the next one last, so that what is nested
    in the text is not nested in calls; and so are the nodes that have begun and not ended."""

    def __init__(self, found):
        self.found = found
        self.symbols = [symbol_of(token) for token in found] + ["finish"]
        self.ways = ways_by_token()
        self.at = 0
        self.fault = 0
        self.program = Node("PROGRAM", 0)
        self.begun = [self.program]
        self.frames = [Frame("once", "finish", 1, 0), Frame("many", "DECL", MOST_DECLARATIONS, 0)]


def can_begin(reading, symbol, token):
    return symbol == token or (symbol, token) in reading.ways


def fault_of(reading, frame, token):
    """Which fault it is that the token begins what the frame asks for; of several the least."""
    if not can_begin(reading, frame.symbol, token):
        return CANT_STAND
    if frame.symbol in RULES_THAT_COUNT_AS_DEEP and frame.depth > DEEPEST:
        return TOO_DEEP
    if frame.room < 1:
        return TOO_MANY
    return 0


def begin_node(reading, rule):
    """Begins a node of the tree; the frame tells when it is to be ended."""
    reading.begun.append(Node(rule, reading.at))
    reading.frames.append(Frame("end", rule, 1, 0))


def end_node(reading):
    node = reading.begun.pop()
    node.behind = reading.at
    around = reading.begun[-1]
    around.inner.append(finished(node, reading.symbols))


def push_way(reading, frame, token):
    if frame.symbol in RULES_IN_THE_TREE:
        begin_node(reading, frame.symbol)
    depth = frame.depth
    if frame.symbol in RULES_THAT_COUNT_AS_DEEP:
        depth += 1
    way = reading.ways[(frame.symbol, token)]
    for part in reversed(way):
        reading.frames.append(Frame(part[0], part[1], part[2], depth))


def push_one_and_others(reading, frame):
    """One of what the frame asks for, and behind it the frame again with room for one less."""
    reading.frames.append(Frame(frame.form, frame.symbol, frame.room - 1, frame.depth))
    reading.frames.append(Frame("once", frame.symbol, frame.room, frame.depth))


def read_once(reading, frame, token):
    reading.fault = fault_of(reading, frame, token)
    if reading.fault > 0:
        return
    if frame.symbol == token:
        reading.at += 1
    else:
        push_way(reading, frame, token)


def step(reading):
    frame = reading.frames.pop()
    token = reading.symbols[reading.at]
    if frame.form == "end":
        end_node(reading)
    elif token == "nothing":
        reading.fault = NOT_A_TOKEN
    elif frame.form == "once":
        read_once(reading, frame, token)
    elif frame.form == "more":
        if token == ",":
            reading.at += 1
            push_one_and_others(reading, frame)
    elif can_begin(reading, frame.symbol, token):
        if frame.form == "many":
            push_one_and_others(reading, frame)
        else:
            reading.frames.append(Frame("once", frame.symbol, frame.room, frame.depth))


def read_text(t):
    """Reads a text as a program; the reading has its tree, or the fault and at which token it is (behind the last
    one if the text ends too soon)."""
    reading = Reading(scan(t))
    while reading.fault == 0 and reading.frames:
        step(reading)
    return reading
