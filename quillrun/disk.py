"""The disk of a workshop: two files, and the power that each step of writing needs."""

from quillrun.errors import PowerOff
from quillrun.files import File
from quillrun.log import Base, counting_file, log_start, read_log, write_note


class Disk:
    """Two files, of which one counts, and a switch for power."""

    def __init__(self):
        self.is_off = False
        self._files = (File(), File())
        # The number of steps after which power fails, or None.
        self._steps_left = None
        self._counting = 0
        self._turn = 1
        self._begin()

    def content(self, index):
        """Returns the bytes of a file."""
        return self._files[index].content()

    def fail_after(self, steps):
        """Sets power to fail after so many further steps."""
        self._steps_left = steps

    def restart(self, first, second):
        """Power fails and comes back; so many of the pending steps of the files have arrived."""
        self._files[0].lose(first)
        self._files[1].lose(second)
        self._steps_left = None
        self.is_off = False

    def read(self):
        """Returns the base that the file that counts tells, and cuts off everything else."""
        counting = counting_file(self.content(0), self.content(1))
        if counting is None:
            counting = 0
            self._shorten(0, 0)
            self._shorten(1, 0)
            self._begin()
        turn, base, size = read_log(self.content(counting))
        self._shorten(counting, size)
        self._flush(counting)
        self._shorten(1 - counting, 0)
        self._counting = counting
        self._turn = turn
        return base

    def store(self, triples, cells):
        """Stores the group of a commit."""
        self._write(self._counting, write_note(triples, cells))
        self._flush(self._counting)

    def tidy(self, base):
        """Writes the base into the other file, which counts from then on."""
        counted = self._counting
        self._shorten(1 - counted, 0)
        self._write(1 - counted, log_start(self._turn + 1, base))
        self._flush(1 - counted)
        self._shorten(counted, 0)
        self._counting = 1 - counted
        self._turn += 1

    def _begin(self):
        """Writes the log of a base without commits into the first file."""
        self._write(0, log_start(1, Base()))
        self._flush(0)

    def _write(self, index, data):
        """Appends bytes to a file."""
        self._spend(self._files[index].write(data, self._steps_left), len(data))

    def _shorten(self, index, size):
        """Truncates a file."""
        self._spend(self._files[index].shorten(size, self._steps_left), 1)

    def _flush(self, index):
        """Flushes a file."""
        self._spend(self._files[index].flush(self._steps_left), 1)

    def _spend(self, done, needed):
        """Takes the steps that were done from those that are left; power fails if more were needed."""
        if self._steps_left is not None:
            self._steps_left -= done
        if done < needed:
            self.is_off = True
            raise PowerOff("power failed")
