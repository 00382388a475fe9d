"""What runs while a workshop is open: all that follows from the base, and the views that are kept."""

from quillrun.cells import outcomes, turned
from quillrun.chunks import chunks
from quillrun.errors import UnfitArguments
from quillrun.fitting import kinds_fit
from quillrun.live import Engine
from quillrun.printer import write_kind
from quillrun.values import inner, is_large
from quillrun.views import Views


class Running:
    """A base, with the engine that keeps up with its texts and the views that are kept."""

    def __init__(self, base):
        self.base = base
        self.engine = Engine()
        self.views = Views()
        # For each chunk the pair of its module and its position there.
        self.places = []
        self._follow(base.deeds)
        # The program of the base, also while the engine is ahead of it.
        self.program = self.engine.program

    def told_by_cells(self):
        """Returns the outcome of each cell in force."""
        return outcomes(self.program, self.base.held)

    def sort_of(self, name):
        """Returns the word of the definition in force with this name, or None."""
        found = self.program.find(name)
        return None if found is None else found[0]

    def cells_after(self, triples):
        """Makes the engine keep up with deeds that come, and returns the cells that hold something else then."""
        deeds = self.base.deeds.copy()
        for replica, _, deed in triples:
            deeds.add(replica, deed)
        self._follow(deeds)
        held = turned(self.engine.program, self.base.held)
        return [(name, *held[name]) for name in sorted(held) if held[name] != self.base.held.get(name)]

    def take(self, triples, cells):
        """Takes the group of a commit, when it has been stored."""
        held_before = dict(self.base.held)
        self.base.take(triples, cells)
        self.views.change(self.program, held_before, self.engine.program, self.base.held)
        self.program = self.engine.program

    def _follow(self, deeds):
        """Makes the engine keep up with the texts of deeds."""
        found = [
            (module, position, chunk)
            for module in deeds.modules()
            for position, chunk in chunks(deeds.text(module))
        ]
        self.places = [(module, position) for module, position, _ in found]
        self.engine.update([chunk for _, _, chunk in found])

    def check_arguments(self, name, sort, values):
        """Raises UnfitArguments if the name is such a definition in force and cannot be given these values."""
        if self.sort_of(name) == sort:
            parameters, _ = self.program.schemes[name]
            if any([holds_large(value) for value in values]) or not kinds_fit(self.program, values, parameters):
                raise UnfitArguments("the arguments do not fit")

    def definitions_told(self):
        """Returns a triple (name, sort, written type) for each definition in force."""
        return [(one[1], one[0], written_kind(self.program, one)) for one in self.program.force]

    def problems_told(self):
        """Returns a triple (module, position, problem) for each chunk whose definition is not in force."""
        found = []
        for (module, position), problem in zip(self.places, self.engine.problems):
            if problem is not None and problem[0] == "refused":
                found.append((module, position + problem[1], ("refused",)))
            elif problem is not None:
                found.append((module, position, problem))
        return found

    def cells_told(self):
        """Returns a tuple (name, written type, in force, outcome) for each cell that holds something."""
        return [
            (name, write_kind(shape[0]), name in self.program.cells, outcome)
            for name, shape, outcome in self.base.cells()
        ]


def holds_large(value):
    """Returns True if a value or a value anywhere in it is too large."""
    waiting = [value]
    while waiting:
        part = waiting.pop()
        if is_large(part):
            return True
        waiting.extend(inner(part))
    return False


def written_kind(program, definition):
    """Returns the type of a definition in force in the words of the language, or None for data."""
    name = definition[1]
    if definition[0] == "data":
        return None
    if definition[0] == "cell":
        return write_kind(program.cells[name])
    arguments, result = program.schemes[name]
    if definition[0] == "view":
        return write_kind(result)
    return "(" + ", ".join([write_kind(kind) for kind in arguments]) + ") : " + write_kind(result)
