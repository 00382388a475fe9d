"""Programs that are written as texts, for tests."""
from quillrun.chunks import chunks
from quillrun.parser import parse
from quillrun.program import Program


def definitions(text):
    return [parse(chunk) for _, chunk in chunks(text)]


def program(text):
    return Program(definitions(text))


def expression(text):
    """The tree of an expression."""
    return parse("view v = " + text)[2]


def in_force(made):
    """The names of the definitions in force, in their order."""
    return [definition[1] for definition in made.force]
