"""How deeds, packets, values and what cells hold are written as bytes."""

from quillrun.values import form

# The places in these are the bytes that stand for the words.
BASES = ("num", "text", "bool")
FAULTS = ("division", "deep", "large", "missing", "stuck", "long")
PACKET = 1


def write_number(number):
    """Writes a natural number: seven bits in each byte, the lowest first."""
    data = []
    while number >= 128:
        data.append(128 + number % 128)
        number = number // 128
    return [*data, number]


def write_integer(number):
    """Writes an integer: whether it is negative, then its absolute value."""
    return [1 if number < 0 else 0, *write_number(abs(number))]


def write_string(text):
    """Writes a string: the number of its characters, then their codes."""
    return [*write_number(len(text)), *[ord(character) for character in text]]


def write_list(items):
    """Writes a list, given the written forms of its items."""
    return [*write_number(len(items)), *[byte for item in items for byte in item]]


def write_mark(mark):
    """Writes a mark: its two numbers."""
    return [*write_number(mark[0]), *write_number(mark[1])]


def write_deed(deed):
    """Writes a deed of one of both forms."""
    if deed[0] == "back":
        return [1, *write_number(deed[1])]
    _, module, removed, behind, number, text = deed
    marks = write_list([write_mark(mark) for mark in removed])
    place = [0] if behind is None else [1, *write_mark(behind)]
    return [0, *write_string(module), *marks, *place, *write_number(number), *write_string(text)]


def write_triple(triple):
    """Writes the triple of a replica, a place and a deed."""
    replica, place, deed = triple
    return [*write_number(replica), *write_number(place), *write_deed(deed)]


def write_packet(packet):
    """Writes a packet."""
    return [PACKET, *write_list([write_triple(triple) for triple in packet])]


def write_kind(kind):
    """Writes a type without variables: its levels, then its base."""
    levels, base = kind
    written = [BASES.index(base)] if base in BASES else [len(BASES), *write_string(base)]
    return [*write_number(levels), *written]


def write_value(value):
    """Writes a value: its form, then what it consists of."""
    match form(value):
        case "num":
            return [0, *write_integer(value)]
        case "text":
            return [1, *write_string(value)]
        case "bool":
            return [2, 1 if value else 0]
        case "list":
            return [3, *write_values(value[1])]
    return [4, *write_string(value[1]), *write_values(value[2])]


def write_values(values):
    """Writes a list of values."""
    return write_list([write_value(value) for value in values])


def write_fault(fault):
    """Writes a fault, with its name if it has one."""
    names = [write_string(name) for name in fault[1:]]
    return [FAULTS.index(fault[0]), *[byte for name in names for byte in name]]


def write_outcome(outcome):
    """Writes an outcome: a value or a fault."""
    if outcome[0] == "value":
        return [0, *write_value(outcome[1])]
    return [1, *write_fault(outcome[1])]


def write_maker(maker):
    """Writes the pair of a maker and the types of its arguments."""
    name, fields = maker
    return [*write_string(name), *write_list([write_kind(kind) for kind in fields])]


def write_data(data):
    """Writes the pair of the name of data and their makers."""
    name, makers = data
    return [*write_string(name), *write_list([write_maker(maker) for maker in makers])]


def write_shape(shape):
    """Writes a shape: the type, then the data that it reaches."""
    kind, reached = shape
    return [*write_kind(kind), *write_list([write_data(data) for data in reached])]


def write_cell(name, shape, outcome):
    """Writes a cell that holds something."""
    return [*write_string(name), *write_shape(shape), *write_outcome(outcome)]


def write_cells(cells):
    """Writes a list of triples of a cell, its shape and its outcome."""
    return write_list([write_cell(name, shape, outcome) for name, shape, outcome in cells])


def write_group(triples, cells):
    """Writes a group: the triples of deeds that came, and the cells with what they hold."""
    return [*write_list([write_triple(triple) for triple in triples]), *write_cells(cells)]
