"""Points [55] to [60] as they stand, slowly: everything that is told is made anew from the base."""
from plain_engine import PlainEngine, problems
from quillrun.acts import make_act
from quillrun.cells import outcomes, turned
from quillrun.chunks import chunks
from quillrun.code import definition_code
from quillrun.edits import received
from quillrun.log import Base, log_start, write_note
from quillrun.machine import call_code
from quillrun.meaning import Meaning
from quillrun.printer import write_kind


def written(program, one):
    if one[0] == "data":
        return None
    if one[0] == "cell":
        return write_kind(program.cells[one[1]])
    arguments, result = program.schemes[one[1]]
    if one[0] == "view":
        return write_kind(result)
    return "(" + ", ".join(write_kind(kind) for kind in arguments) + ") : " + write_kind(result)


class PlainWorkshop:
    """Without a disk; `log` is what the file that counts must hold."""

    def __init__(self, replica):
        self.replica = replica
        self.turn = 1
        self.opened(Base())
        self.log = log_start(1, self.base)

    def opened(self, base):
        """Everything but the base begins anew."""
        self.base = base
        self.kept, self.evaluated = {}, 0
        self.engine = PlainEngine()
        self.program = self.follow(base.deeds)

    def tidied(self):
        self.turn += 1
        self.log = log_start(self.turn, self.base)

    def chunks(self, deeds):
        return [(module, position, chunk) for module in deeds.modules() for position, chunk in chunks(deeds.text(module))]

    def follow(self, deeds):
        """The program of deeds; counts what an engine has to do for it."""
        return self.engine.update([chunk for _, _, chunk in self.chunks(deeds)])

    def commit(self, triples, cells=()):
        program, cells = self.program, list(cells)
        if triples:
            deeds = received(self.base.deeds, triples)[0]
            program = self.follow(deeds)
            held = turned(program, self.base.held)
            cells = [(name, *held[name]) for name in sorted(held)
                     if name not in self.base.held or repr(held[name]) != repr(self.base.held[name])]
        self.log = self.log + write_note(triples, cells)
        after = self.base.grown(triples, cells)
        self.kept = {name: reads for name, reads in self.kept.items()
                     if all(self.is_same(read, program, after.held) for read in reads)}
        self.program, self.base = program, after

    def is_same(self, name, program, held):
        one, other = self.program.find(name), program.find(name)
        if one != other:
            return False
        return other is None or other[0] != "cell" or repr(held[name][1]) == repr(self.base.held[name][1])

    def own(self, deed):
        self.commit([(self.replica, self.base.deeds.counts()[self.replica] + 1, deed)])

    def told_program(self):
        force = [(one[1], one[0], written(self.program, one)) for one in self.program.force]
        found = self.chunks(self.base.deeds)
        told = []
        for (module, position, _), problem in zip(found, problems([chunk for _, _, chunk in found], self.program)):
            if problem is not None and problem[0] == "refused":
                told.append((module, position + problem[1], ("refused",)))
            elif problem is not None:
                told.append((module, position, problem))
        return force, told

    def told_cells(self):
        return [(name, write_kind(shape[0]), name in self.program.cells, outcome)
                for name, (shape, outcome) in sorted(self.base.held.items())]

    def meaning(self):
        return Meaning(self.program, outcomes(self.program, self.base.held))

    def call(self, name, values):
        outcome, steps, reads = self.meaning().call(name, values)
        instructions = call_code(self.program, outcomes(self.program, self.base.held), name, values)[1]
        return outcome, steps, sorted(reads), instructions

    def act(self, name, values):
        outcome, steps, reads, settings = make_act(self.program, self.base.held, name, values)
        if settings:
            self.commit([], [(cell, self.base.held[cell][0], ("value", value)) for cell, value in settings])
        return outcome, steps, sorted(reads)

    def view(self, name):
        outcome, _, reads = self.meaning().look(name)
        for read in reads:
            one = self.program.find(read)
            if one is not None and one[0] == "view" and read not in self.kept:
                self.kept[read] = self.meaning().look(read)[2]
                self.evaluated += 1
        return outcome, 0, sorted(reads)

    def status(self):
        return (self.base.commits, *self.engine.done, len(self.kept), self.evaluated)

    def code(self, name):
        one = self.program.find(name)
        return None if one is None else definition_code(one)

    def told(self, names):
        """All that must be the same as what a workshop tells."""
        deeds = self.base.deeds
        return (deeds.modules(), [deeds.text(module) for module in deeds.modules()], deeds.counts(), self.told_program(),
                self.told_cells(), self.status(), [self.code(name) for name in names])


def told_by(workshop, names):
    """The same of a workshop."""
    return (workshop.modules(), [workshop.text(module) for module in workshop.modules()], workshop.counts(),
            workshop.program(), workshop.cells(), workshop.status(), [workshop.code(name) for name in names])
