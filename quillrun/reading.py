"""Reading of what quillrun.codes writes.

Each thing has one written form, and all other bytes raise DamagedPacket.
"""

from quillrun.codes import BASES, FAULTS, PACKET
from quillrun.errors import DamagedPacket
from quillrun.values import MOST_DEPTH

LONGEST_NUMBER = 60
# All characters of texts.
CHARACTERS = "\n !\"#$&'()*+,-./0123456789:;<=>?@ABCDEFGHIJKLMNOPQRSTUVWXYZ[\\]^_`abcdefghijklmnopqrstuvwxyz{|}~"


class Reader:
    """Reads a list of bytes from the front."""

    def __init__(self, data):
        self.at = 0
        self._data = list(data)
        self._characters = {ord(character): character for character in CHARACTERS}

    def end(self):
        """Checks that all bytes have been read."""
        if self.at != len(self._data):
            raise DamagedPacket(f"bytes are left at {self.at}")

    def read_byte(self, most=255):
        """Reads a byte that is at most so great."""
        if self.at >= len(self._data) or not 0 <= self._data[self.at] <= most:
            raise DamagedPacket(f"no such byte stands at {self.at}")
        self.at += 1
        return self._data[self.at - 1]

    def read_bytes(self, count):
        """Reads so many bytes as a list."""
        if count > len(self._data) - self.at:
            raise DamagedPacket(f"there are not so many bytes at {self.at}")
        self.at += count
        return self._data[self.at - count:self.at]

    def expect(self, byte):
        """Reads a byte that must be this one."""
        if self.read_byte() != byte:
            raise DamagedPacket(f"another byte stands before {self.at}")

    def read_number(self):
        """Reads a natural number."""
        number = 0
        for place in range(LONGEST_NUMBER):
            byte = self.read_byte()
            number += (byte & 127) << (7 * place)
            if byte == 0 and place > 0:
                raise DamagedPacket(f"a needless byte stands before {self.at}")
            if byte < 128:
                return number
        raise DamagedPacket(f"the number before {self.at} is too long")

    def read_count(self):
        """Reads the number of items of a list, each of which needs a byte at least."""
        count = self.read_number()
        if count > len(self._data) - self.at:
            raise DamagedPacket(f"there are not so many items at {self.at}")
        return count

    def read_integer(self):
        """Reads an integer."""
        is_negative = self.read_byte(1) == 1
        number = self.read_number()
        if is_negative and number == 0:
            raise DamagedPacket(f"zero is negative before {self.at}")
        return -number if is_negative else number

    def read_string(self):
        """Reads a string."""
        codes = self.read_bytes(self.read_number())
        if any([code not in self._characters for code in codes]):
            raise DamagedPacket(f"a character before {self.at} stands in no text")
        return "".join([self._characters[code] for code in codes])

    def read_mark(self):
        """Reads a mark."""
        return self.read_number(), self.read_number()

    def read_deed(self):
        """Reads a deed."""
        if self.read_byte(1) == 1:
            return "back", self.read_number()
        module = self.read_string()
        removed = tuple([self.read_mark() for _ in range(self.read_count())])
        behind = self.read_mark() if self.read_byte(1) == 1 else None
        return "change", module, removed, behind, self.read_number(), self.read_string()

    def read_deeds(self):
        """Reads a list of deeds."""
        return [self.read_deed() for _ in range(self.read_count())]

    def read_triples(self):
        """Reads a list of triples of a replica, a place and a deed."""
        return [(self.read_number(), self.read_number(), self.read_deed()) for _ in range(self.read_count())]

    def read_packet(self):
        """Reads a packet."""
        self.expect(PACKET)
        return self.read_triples()

    def read_value(self):
        """Reads a value."""
        return self._read_value(MOST_DEPTH)

    def _read_value(self, most_depth):
        """Reads a value that is at most so deep."""
        if most_depth == 0:
            raise DamagedPacket(f"the value at {self.at} lies too deep")
        match self.read_byte(4):
            case 0:
                return self.read_integer()
            case 1:
                return self.read_string()
            case 2:
                return self.read_byte(1) == 1
            case 3:
                return "list", self._read_values(most_depth - 1)
        return "make", self.read_string(), self._read_values(most_depth - 1)

    def _read_values(self, most_depth):
        """Reads a list of such values as a tuple."""
        return tuple([self._read_value(most_depth) for _ in range(self.read_count())])

    def read_outcome(self):
        """Reads an outcome."""
        if self.read_byte(1) == 0:
            return "value", self.read_value()
        word = FAULTS[self.read_byte(len(FAULTS) - 1)]
        return "fault", ((word, self.read_string()) if word == "missing" else (word,))

    def read_kind(self):
        """Reads a type."""
        levels = self.read_number()
        number = self.read_byte(len(BASES))
        base = self.read_string() if number == len(BASES) else BASES[number]
        if number == len(BASES) and base in BASES:
            raise DamagedPacket(f"data before {self.at} are called like another base")
        return levels, base

    def read_maker(self):
        """Reads the pair of a maker and the tuple of the types of its arguments."""
        return self.read_string(), tuple([self.read_kind() for _ in range(self.read_count())])

    def read_data(self):
        """Reads the pair of the name of data and the tuple of their makers."""
        return self.read_string(), tuple([self.read_maker() for _ in range(self.read_count())])

    def read_shape(self):
        """Reads a shape."""
        return self.read_kind(), tuple([self.read_data() for _ in range(self.read_count())])

    def read_cell(self):
        """Reads the triple of a cell, its shape and its outcome."""
        return self.read_string(), self.read_shape(), self.read_outcome()

    def read_cells(self):
        """Reads a list of such triples."""
        return [self.read_cell() for _ in range(self.read_count())]

    def read_group(self):
        """Reads the pair of the list of triples of deeds and the list of cells of a group."""
        return self.read_triples(), self.read_cells()
