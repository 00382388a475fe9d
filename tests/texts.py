"""Programs that are written as texts, for tests."""
from quillrun.chunks import chunks
from quillrun.parser import parse
from quillrun.program import Program


def definitions(text):
    return [parse(chunk) for _, chunk in chunks(text)]


def program(text):
    return Program(definitions(text))


def expression(text):
    """The tree of an expression."""
    return parse("view v = " + text)[2]


def in_force(made):
    """The names of the definitions in force, in their order."""
    return [definition[1] for definition in made.force]


def unjudged(text):
    """The program of a text in which everything counts as typed."""
    def judge(found, _):
        return {definition[1]: ((), (0, "num")) for definition in found if definition[0] in ("fun", "view", "act")}
    return Program(definitions(text), judge)


def value(found):
    return ("value", found)


def listed(*items):
    return ("list", items)


def made(maker, *arguments):
    return ("make", maker, arguments)


def fault(word, *name):
    return ("fault", (word, *name))


STUCK = fault("stuck")
LARGE = fault("large")
DIVISION = fault("division")
DEEP = fault("deep")
LONG = fault("long")
