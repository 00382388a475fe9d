"""The tokens of a chunk."""

from quillrun.chunks import BLANKS
from quillrun.errors import RefusedChunk

KEYWORDS = (
    "data", "fun", "cell", "view", "act", "turn", "then", "true", "false", "not", "and", "or", "if", "else",
    "let", "in", "case", "of", "end", "num", "text", "bool", "list", "mod",
)
LONG_SIGNS = ("++", "::", "->", ":=")
SHORT_SIGNS = ("(", ")", "[", "]", ",", ";", "|", "=", "<", "+", "-", "*", "/", ":")
LOWER = "abcdefghijklmnopqrstuvwxyz"
UPPER = "ABCDEFGHIJKLMNOPQRSTUVWXYZ"
DIGITS = "0123456789"
WORD_CHARACTERS = "abcdefghijklmnopqrstuvwxyzABCDEFGHIJKLMNOPQRSTUVWXYZ0123456789_"
MOST_DIGITS = 18


def tokenize(chunk):
    """Returns the list of triples (kind, value, position) of a chunk."""
    tokens = []
    position = 0
    while position < len(chunk):
        if chunk[position] in BLANKS:
            position += 1
        else:
            kind, value, end = token_at(chunk, position)
            tokens.append((kind, value, position))
            position = end
    return tokens


def token_at(chunk, start):
    """Returns the kind and the value of the token that starts here, and the position behind it."""
    first = chunk[start]
    if first in LOWER or first in UPPER:
        return word_at(chunk, start)
    if first in DIGITS:
        return number_at(chunk, start)
    if first == "'":
        return text_at(chunk, start)
    return sign_at(chunk, start)


def word_at(chunk, start):
    """Reads a keyword, a name or a maker."""
    end = end_of_run(chunk, start, WORD_CHARACTERS)
    word = chunk[start:end]
    if word[0] in UPPER:
        return "maker", word, end
    if word in KEYWORDS:
        return "keyword", word, end
    return "name", word, end


def number_at(chunk, start):
    """Reads a number."""
    end = end_of_run(chunk, start, DIGITS)
    if end - start > MOST_DIGITS:
        raise RefusedChunk(start)
    return "number", int(chunk[start:end]), end


def text_at(chunk, start):
    """Reads a quoted text."""
    characters = []
    position = start + 1
    while position < len(chunk):
        if chunk[position] != "'":
            characters.append(chunk[position])
            position += 1
        elif chunk[position + 1:position + 2] == "'":
            characters.append("'")
            position += 2
        else:
            return "text", "".join(characters), position + 1
    raise RefusedChunk(start)


def sign_at(chunk, start):
    """Reads a sign, the longer one where two are possible."""
    if chunk[start:start + 2] in LONG_SIGNS:
        return "sign", chunk[start:start + 2], start + 2
    if chunk[start] in SHORT_SIGNS:
        return "sign", chunk[start], start + 1
    raise RefusedChunk(start)


def end_of_run(chunk, start, allowed):
    """Returns the first position from start on at which no allowed character stands."""
    end = start
    while end < len(chunk) and chunk[end] in allowed:
        end += 1
    return end
