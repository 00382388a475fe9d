"""The workshop of a replica: it is edited, exchanges packets, runs its program, and survives that power fails."""

from quillrun.acts import make_act
from quillrun.codes import write_packet
from quillrun.disk import Disk
from quillrun.documents import LONGEST_MODULE, REPLICAS
from quillrun.edits import again_deed, back_deed, edit_deed, lacking, received
from quillrun.errors import InvalidArgument, PowerOff, WorkshopClosed, WorkshopOpen
from quillrun.log import Base
from quillrun.machine import call_code
from quillrun.meaning import Meaning
from quillrun.reading import Reader
from quillrun.running import Running


class Workshop:
    """A replica with a disk, and what runs while it is open."""

    def __init__(self, replica):
        if isinstance(replica, bool) or not isinstance(replica, int) or not 0 <= replica < REPLICAS:
            raise InvalidArgument("there is no such replica")
        self._replica = replica
        self._disk = Disk()
        # None while the workshop is closed.
        self._running = Running(Base())

    def edit(self, module, index, count, text):
        """Removes so many characters of a module from an index on, and inserts a text there."""
        deeds = self._now().base.deeds
        if not 1 <= len(module) <= LONGEST_MODULE:
            raise InvalidArgument("a module has from 1 to 40 characters")
        self._do(edit_deed(deeds, module, index, count, text))

    def back(self):
        """Takes back the last own change in force."""
        self._do(back_deed(self._now().base.deeds, self._replica))

    def again(self):
        """Takes back the last own taking back."""
        self._do(again_deed(self._now().base.deeds, self._replica))

    def text(self, module):
        """Returns the text of a module."""
        return self._now().base.deeds.text(module)

    def modules(self):
        """Returns the names of the modules that exist."""
        return self._now().base.deeds.modules()

    def counts(self):
        """Returns the numbers of deeds of the replicas."""
        return self._now().base.deeds.counts()

    def packet(self, counts):
        """Returns the written form of the packet of the deeds that lie after the counts."""
        return write_packet(lacking(self._now().base.deeds, counts))

    def receive(self, data):
        """Takes what fits of a packet, and returns the number of deeds that were taken."""
        running = self._now()
        reader = Reader(data)
        packet = reader.read_packet()
        reader.end()
        _, taken = received(running.base.deeds, packet)
        if taken:
            self._commit_deeds(taken)
        return len(taken)

    def program(self):
        """Returns the definitions in force with their types, and what is wrong with the other chunks."""
        running = self._now()
        return running.definitions_told(), running.problems_told()

    def cells(self):
        """Returns what all cells hold that hold something."""
        return self._now().cells_told()

    def code(self, name):
        """Returns the codes of a function, a view or an act in force, otherwise None."""
        return self._now().engine.codes.get(name)

    def call(self, name, values):
        """Returns outcome, steps, reasons and instructions of a call."""
        running = self._now()
        running.check_arguments(name, "fun", values)
        held = running.told_by_cells()
        outcome, steps, reads = Meaning(running.program, held).call(name, values)
        _, instructions, _ = call_code(running.program, held, name, values)
        return outcome, steps, sorted(reads), instructions

    def act(self, name, values):
        """Makes an act, and returns outcome, steps and reasons."""
        running = self._now()
        running.check_arguments(name, "act", values)
        outcome, steps, reads, settings = make_act(running.program, running.base.held, name, values)
        if settings:
            held = running.base.held
            self._commit([], [(cell, held[cell][0], ("value", value)) for cell, value in settings])
        return outcome, steps, sorted(reads)

    def view(self, name):
        """Returns outcome, steps and reasons of a view or a cell."""
        running = self._now()
        if running.sort_of(name) == "view":
            outcome, reads = running.views.ask(running.program, running.base.held, name)
            return outcome, 0, sorted(reads)
        return Meaning(running.program, running.told_by_cells()).look(name)

    def status(self):
        """Returns the numbers of commits and of what was done and is kept since the workshop was opened."""
        running = self._now()
        engine = running.engine
        views = running.views
        return (
            running.base.commits, engine.read, engine.judged, engine.compiled, len(views.kept()), views.evaluated,
        )

    def tidy(self):
        """Makes the log short."""
        self._disk.tidy(self._now().base)

    def fail_after(self, steps):
        """Sets power to fail after so many further steps."""
        self._need_power()
        self._disk.fail_after(steps)

    def power(self, first, second):
        """Power fails if it has not yet, and comes back; so many of the pending steps of the files have arrived."""
        self._disk.restart(first, second)
        self._running = None

    def open_again(self):
        """Opens the closed workshop with what the files tell."""
        self._need_power()
        if self._running is not None:
            raise WorkshopOpen("the workshop is open already")
        self._running = Running(self._disk.read())

    def log(self, index):
        """Returns the content of the first or the second file."""
        return self._disk.content(index)

    def _need_power(self):
        """Raises PowerOff if power is off."""
        if self._disk.is_off:
            raise PowerOff("power is off")

    def _now(self):
        """Returns what runs, or raises the error of a workshop that cannot be used now."""
        self._need_power()
        if self._running is None:
            raise WorkshopClosed("the workshop is closed")
        return self._running

    def _do(self, deed):
        """Does an own deed."""
        place = self._running.base.deeds.counts()[self._replica] + 1
        self._commit_deeds([(self._replica, place, deed)])

    def _commit_deeds(self, triples):
        """Makes a commit of deeds, with the cells that hold something else because of them."""
        self._commit(triples, self._running.cells_after(triples))

    def _commit(self, triples, cells):
        """Stores a group, and only then takes it."""
        self._disk.store(triples, cells)
        self._running.take(triples, cells)
