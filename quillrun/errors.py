"""The errors of the program."""


class QuillrunError(ValueError):
    """The base class of all errors of the program."""


class InvalidArgument(QuillrunError):
    """An argument is not one that the workshop takes."""


class OutOfText(QuillrunError):
    """An edit goes beyond the end of the text."""


class NothingToTakeBack(QuillrunError):
    """The replica has no deed that could be taken back."""


class DamagedPacket(QuillrunError):
    """Bytes are not the written form of what is read."""


class UnfitArguments(QuillrunError):
    """The arguments do not fit the function or the act."""


class PowerOff(QuillrunError):
    """Power is off, or failed during the call."""


class WorkshopClosed(QuillrunError):
    """The workshop is closed."""


class WorkshopOpen(QuillrunError):
    """The workshop is open already."""


class RefusedChunk(QuillrunError):
    """A chunk is refused at a position in it."""

    def __init__(self, position):
        super().__init__(f"refused at {position}")
        self.position = position
