"""The parser, which reads a chunk as the tree of a definition."""

from quillrun.builder import build
from quillrun.errors import RefusedChunk
from quillrun.grammar import GRAMMAR, production
from quillrun.tokens import tokenize
from quillrun.trees import expressions, kinds, parts

MOST_TOKENS = 200
MOST_OPEN = 12
DEEPEST = 12
MOST_LEVELS = 12
OPENING = ("(", "[", "case")
CLOSING = (")", "]", "end")
WITH_VALUES = ("TAKE", "NAME", "MAKER", "NUMBER", "TEXT")
# No definition has this word, so it ends whatever may end.
END_OF_CHUNK = "END"


def parse(chunk):
    """Returns the tree of the definition that a chunk is."""
    # A stack of what must come, not a call for each expression: 200 tokens may lie 200 deep.
    pending = ["<definition>"]
    values = []
    places = 0
    for index, (kind, value, position) in enumerate(tokenize(chunk)):
        word = word_of(kind, value)
        places += opened_by(word)
        if index == MOST_TOKENS or places > MOST_OPEN or not takes(pending, values, word, value):
            raise RefusedChunk(position)
    settle(pending, values, END_OF_CHUNK)
    if pending or goes_too_deep(values[0]):
        raise RefusedChunk(len(chunk))
    return values[0]


def word_of(kind, value):
    """Returns the word that stands for a token in the grammar."""
    if kind in ("keyword", "sign"):
        return value
    return kind.upper()


def opened_by(word):
    """Returns by how much a word changes the number of open places."""
    if word in OPENING:
        return 1
    if word in CLOSING:
        return -1
    return 0


def takes(pending, values, word, value):
    """Returns True if this word can come next; then it is taken."""
    settle(pending, values, word)
    if not pending or pending[-1] not in ("TAKE", word):
        return False
    if pending.pop() in WITH_VALUES:
        values.append(value)
    return True


def settle(pending, values, word):
    """Makes choices and builds trees until a token must be taken, or nothing can be chosen before this word."""
    while pending and (pending[-1] in GRAMMAR or pending[-1].startswith("!")):
        symbol = pending.pop()
        if symbol not in GRAMMAR:
            build(values, symbol)
            continue
        row = production(symbol, word)
        if row is None:
            pending.append(symbol)
            return
        pending.extend(row[::-1])


def goes_too_deep(definition):
    """Returns True if an expression of a definition is too deep or a type has too many levels."""
    if any([levels > MOST_LEVELS for levels, _ in kinds(definition)]):
        return True
    waiting = [(e, 1) for e in expressions(definition)]
    while waiting:
        e, depth = waiting.pop()
        if depth > DEEPEST:
            return True
        waiting.extend([(part, depth + 1) for part in parts(e)])
    return False
