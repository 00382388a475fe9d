"""Views that are kept, so that what does not change is not evaluated again."""

from quillrun.cells import outcomes
from quillrun.meaning import look_in
from quillrun.telling import World
from quillrun.values import same


def tells_same(name, before, held_before, after, held_after):
    """Returns True if a name tells the same before and after a change of the program and of what the cells hold."""
    definition = after.find(name)
    if before.find(name) != definition:
        return False
    if definition is None or definition[0] != "cell":
        return True
    return same_outcome(held_before[name][1], held_after[name][1])


def same_outcome(first, second):
    """Returns True if two outcomes are the same; a boolean is never the same as an integer."""
    if first[0] != second[0]:
        return False
    return same(first[1], second[1]) if first[0] == "value" else first[1] == second[1]


class Views:
    """The views that are kept."""

    def __init__(self):
        self.evaluated = 0
        # For each view that is kept the pair of its outcome and the tuple of what it read.
        self._kept = {}

    def ask(self, program, held, name):
        """Returns the outcome of a view in force and the list of what it read; the view is kept."""
        if name not in self._kept:
            before = len(self._kept)
            # The run adds each view that it has to evaluate to those that are kept.
            look_in(World(program, outcomes(program, held), self._kept), name)
            self.evaluated += len(self._kept) - before
        outcome, reads = self._kept[name]
        return outcome, list(reads)

    def kept(self):
        """Returns the sorted names of the views that are kept."""
        return sorted(self._kept)

    def change(self, before, held_before, after, held_after):
        """Forgets the views that read what tells something else after a change."""
        self._kept = {
            name: (outcome, reads)
            for name, (outcome, reads) in self._kept.items()
            if all([tells_same(read, before, held_before, after, held_after) for read in reads])
        }
