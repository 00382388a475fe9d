"""Acts, which set cells."""

from quillrun.cells import outcomes
from quillrun.meaning import Meaning
from quillrun.trees import expressions


def make_act(program, held, name, values):
    """Returns the outcome of an act, its steps, what it read, and the pairs of a cell and the value that it sets."""
    act = program.find(name)
    if act is None or act[0] != "act":
        return ("fault", ("missing", name)), 0, [name], []
    # One meaning for all expressions: what the act sets is not held before all of them were run.
    meaning = Meaning(program, outcomes(program, held))
    steps = 0
    # A dict of True, which keeps the order in which names were first read.
    reads = {name: True}
    results = []
    for e in expressions(act):
        outcome, more, names = meaning.run(e, act[2], values)
        steps += more
        reads.update({read: True for read in names})
        if outcome[0] == "fault":
            return outcome, steps, list(reads), []
        results.append(outcome[1])
    settings = [(setting[0], value) for setting, value in zip(act[3], results)]
    return ("value", results[-1]), steps, list(reads), settings
