"""What cells hold, and how they keep it when the definitions in force change.

What is held is a dict with a pair of a shape and an outcome for each name.
"""

from quillrun.kinds import is_instance
from quillrun.meaning import Meaning


def shape(program, kind):
    """Returns the pair of a type and the data that it reaches, each with its makers, in the order of names."""
    found = {}
    waiting = [kind[1]]
    while waiting:
        base = waiting.pop()
        if base in program.data and base not in found:
            found[base] = program.data[base]
            waiting.extend([inside for _, fields in found[base] for _, inside in fields])
    return kind, tuple([(name, found[name]) for name in sorted(found)])


def takes(program, name, before, after):
    """Returns True if a function in force with one parameter can have these types of parameter and result."""
    function = program.find(name)
    if function is None or function[0] != "fun" or len(function[2]) != 1:
        return False
    return is_instance(((before,), after), program.schemes[name])


def outcomes(program, held):
    """Returns a dict with the outcome of each cell in force."""
    return {name: held[name][1] for name in program.cells}


def turned(program, held):
    """Returns what the cells hold after the definitions in force became those of the program."""
    found = dict(held)
    for name in sorted(program.cells):
        now = shape(program, program.cells[name])
        if name not in held or held[name][0] != now:
            found[name] = (now, begun_outcome(program, program.find(name), held.get(name)))
    return found


def begun_outcome(program, cell, before):
    """Returns the outcome that a cell holds with a new shape: its value turned, or the one with which it begins."""
    meaning = Meaning(program, {})
    if before is not None and can_turn(program, cell, before):
        outcome, _, _ = meaning.call(cell[4], [before[1][1]])
        if outcome[0] == "value":
            return outcome
    outcome, _, _ = meaning.run(cell[3], (), ())
    return outcome


def can_turn(program, cell, before):
    """Returns True if the value that is held can be turned by the function of the cell."""
    (kind, data), outcome = before
    if outcome[0] != "value" or cell[4] is None:
        return False
    if any([program.data.get(name) != makers for name, makers in data]):
        return False
    return takes(program, cell[4], kind, cell[2])
