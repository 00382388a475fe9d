"""The chunks of a text."""

BLANKS = " \n"


def chunks(text):
    """Returns the list of pairs (position, chunk) of a text."""
    starts = [position for position in range(len(text)) if is_start(text, position)]
    ends = [*starts[1:], len(text)]
    return [(start, text[start:end]) for start, end in zip(starts, ends)]


def is_start(text, position):
    """Returns True if a line starts at this position with a character that is not a blank."""
    starts_line = position == 0 or text[position - 1] == "\n"
    return starts_line and text[position] not in BLANKS
