"""What is kept of a workshop, and the log in which it is written."""

from quillrun.codes import write_cells, write_deed, write_group, write_list, write_number
from quillrun.documents import REPLICAS, Deeds
from quillrun.errors import DamagedPacket
from quillrun.reading import Reader

# The first bytes of the records of a log.
TURN = 1
BEGUN = 2
BASE = 3
NOTE = 4
# 2 to the power of 32.
SUMS = 4294967296
SUM_LENGTH = 4


class Base:
    """What is kept: the number of commits, all deeds, and what the cells hold."""

    def __init__(self):
        self.commits = 0
        self.deeds = Deeds()
        self.held = {}

    def copy(self):
        """Returns a copy that shares nothing that can be modified."""
        copied = Base()
        copied.commits = self.commits
        copied.deeds = self.deeds.copy()
        copied.held = dict(self.held)
        return copied

    def data(self):
        """Returns the triple of the number of commits, the deeds, and the cells in the order of names."""
        return self.commits, tuple([tuple(deeds) for deeds in self.deeds.rows]), tuple(self.cells())

    def cells(self):
        """Returns the list of triples of a cell, its shape and its outcome, in the order of names."""
        return [(name, *self.held[name]) for name in sorted(self.held)]

    def grown(self, triples, cells):
        """Returns a new base, after a commit."""
        found = self.copy()
        found.take(triples, cells)
        return found

    def take(self, triples, cells):
        """Takes the group of a commit. This modifies the base."""
        self.commits += 1
        for replica, _, deed in triples:
            self.deeds.add(replica, deed)
        self.hold(cells)

    def hold(self, cells):
        """Holds what cells are told to hold. This modifies the base."""
        for name, shape, outcome in cells:
            self.held[name] = (shape, outcome)


def checksum(data):
    """Returns the sum of bytes."""
    total = 7
    for byte in data:
        total = (31 * total + byte + 1) % SUMS
    return total


def write_sum(data):
    """Writes the sum of bytes as four bytes, the most significant first."""
    total = checksum(data)
    return [total >> 24, (total >> 16) & 255, (total >> 8) & 255, total & 255]


def write_record(data):
    """Returns the bytes of a record."""
    return [*write_number(len(data)), *data, *write_sum(data)]


def record_size(data):
    """Returns the number of bytes of a record."""
    return len(write_number(len(data))) + len(data) + SUM_LENGTH


def read_records(data):
    """Returns the list of the complete records at the front and the number of bytes that they take."""
    reader = Reader(data)
    records = []
    record = next_record(reader)
    while record is not None:
        records.append(record)
        record = next_record(reader)
    return records, sum([record_size(record) for record in records])


def next_record(reader):
    """Returns the bytes of the next record, or None if there is no complete and undamaged one."""
    try:
        record = reader.read_bytes(reader.read_number())
        found = reader.read_bytes(SUM_LENGTH)
    except DamagedPacket:
        return None
    return record if found == write_sum(record) else None


def log_start(turn, base):
    """Returns the bytes of a log without notes."""
    deeds = [byte for row in base.deeds.rows for byte in write_list([write_deed(deed) for deed in row])]
    record = [BASE, *write_number(base.commits), *deeds, *write_cells(base.cells())]
    return [*write_record([TURN, *write_number(turn)]), *write_record(record), *write_record([BEGUN])]


def write_note(triples, cells):
    """Returns the bytes of the record of a note."""
    return write_record([NOTE, *write_group(triples, cells)])


def read_log(data):
    """Returns the turn, the base and the number of bytes that a file tells, or None if it tells nothing."""
    records, _ = read_records(data)
    if len(records) < 3 or records[2] != [BEGUN]:
        return None
    try:
        turn = read_turn(records[0])
        base = read_base(records[1])
    except DamagedPacket:
        return None
    size = sum([record_size(record) for record in records[:3]])
    for record in records[3:]:
        group = note_told(record, base.deeds.counts())
        if group is None:
            break
        base.take(*group)
        size += record_size(record)
    return turn, base, size


def read_turn(record):
    """Returns the turn that the first record of a log tells."""
    reader = Reader(record)
    reader.expect(TURN)
    turn = reader.read_number()
    reader.end()
    return turn


def read_base(record):
    """Returns the base that the second record of a log tells."""
    reader = Reader(record)
    reader.expect(BASE)
    base = Base()
    base.commits = reader.read_number()
    for replica in range(REPLICAS):
        for deed in reader.read_deeds():
            base.deeds.add(replica, deed)
    base.hold(reader.read_cells())
    reader.end()
    return base


def note_told(record, counts):
    """Returns the group that a note tells after so many deeds of the replicas, or None if it is not as told."""
    reader = Reader(record)
    try:
        reader.expect(NOTE)
        triples, cells = reader.read_group()
        reader.end()
    except DamagedPacket:
        return None
    return (triples, cells) if are_next(triples, counts) else None


def are_next(triples, counts):
    """Returns True if each triple has a replica and its next place."""
    reached = list(counts)
    for replica, place, _ in triples:
        if replica >= REPLICAS or place != reached[replica] + 1:
            return False
        reached[replica] = place
    return True


def counting_file(first, second):
    """Returns 0 or 1 for the file that counts, given the contents of both, or None if neither tells anything."""
    one = read_log(first)
    other = read_log(second)
    if one is None and other is None:
        return None
    if one is None or other is None:
        return 0 if other is None else 1
    return 0 if one[0] >= other[0] else 1
