"""Files that lose what was not flushed when power fails."""


def granted(needed, steps):
    """Returns how many of the steps that are needed may be done; `steps` is None for no limit."""
    return needed if steps is None else min(needed, steps)


class File:
    """A list of bytes, with the steps that would be lost."""

    def __init__(self):
        self._content = []
        self._lasting = []
        # The steps after the last flush: ("write", byte) or ("shorten", size).
        self._pending = []

    def write(self, data, steps):
        """Appends as many of the bytes as the steps allow, and returns how many."""
        done = granted(len(data), steps)
        for byte in data[:done]:
            self._do(("write", byte))
        return done

    def shorten(self, size, steps):
        """Truncates the file to its first bytes if there is a step for it, and returns how many steps were done."""
        done = granted(1, steps)
        if done == 1:
            self._do(("shorten", size))
        return done

    def flush(self, steps):
        """Makes all that was done lasting if there is a step for it, and returns how many steps were done."""
        done = granted(1, steps)
        if done == 1:
            self._settle()
        return done

    def content(self):
        """Returns the bytes, with what was not flushed."""
        return list(self._content)

    def pending(self):
        """Returns the number of steps after the last flush."""
        return len(self._pending)

    def lose(self, steps):
        """Power fails: so many of the pending steps have arrived."""
        arrived = self._pending[:steps]
        self._content = list(self._lasting)
        for step in arrived:
            self._do(step)
        self._settle()

    def _do(self, step):
        """Does a step that is not lasting yet."""
        word, number = step
        if word == "write":
            self._content.append(number)
        else:
            self._content = self._content[:number]
        self._pending.append(step)

    def _settle(self):
        """Makes what the file holds lasting."""
        self._lasting = list(self._content)
        self._pending = []
