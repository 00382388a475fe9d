import random
import unittest

from quillrun.codes import (write_cell, write_deed, write_group, write_integer, write_number, write_outcome, write_packet,
                            write_string, write_value)
from quillrun.errors import DamagedPacket
from quillrun.reading import Reader
from texts import DEEP, DIVISION, LARGE, LONG, STUCK, fault, listed, made, value

CHARACTERS = "\n" + "".join(chr(code) for code in range(32, 127) if code != 37)


def read(word, reader):
    return getattr(reader, "read_" + word)()


def written(word, thing):
    write = {"number": write_number, "integer": write_integer, "string": write_string, "deed": write_deed,
             "packet": write_packet, "value": write_value, "outcome": write_outcome,
             "cell": lambda cell: write_cell(*cell), "group": lambda group: write_group(*group)}[word]
    return write(thing)


def a_number(chance):
    return chance.choice((0, 1, 127, 128, 129, chance.randrange(300), chance.randrange(2 ** chance.randrange(1, 421))))


def a_string(chance):
    return "".join(chance.choice(CHARACTERS) for _ in range(chance.choice((0, 1, 3, 8, chance.randrange(150)))))


def a_mark(chance):
    return (a_number(chance), chance.choice((0, 7, 8, 300)))


def a_deed(chance):
    if chance.random() < 0.3:
        return ("back", a_number(chance))
    marks = tuple(a_mark(chance) for _ in range(chance.randrange(4)))
    behind = chance.choice((None, a_mark(chance)))
    return ("change", a_string(chance), marks, behind, a_number(chance), a_string(chance))


def triples(chance):
    return [(a_number(chance), a_number(chance), a_deed(chance)) for _ in range(chance.randrange(4))]


def a_value(chance, depth=4):
    form = chance.randrange(5 if depth > 1 else 3)
    if form == 0:
        return chance.choice((1, -1)) * a_number(chance)
    if form == 1:
        return a_string(chance)
    if form == 2:
        return chance.random() < 0.5
    parts = tuple(a_value(chance, depth - 1) for _ in range(chance.randrange(4)))
    return ("list", parts) if form == 3 else ("make", a_string(chance), parts)


def an_outcome(chance):
    if chance.random() < 0.6:
        return value(a_value(chance))
    return chance.choice((DIVISION, DEEP, LARGE, STUCK, LONG, fault("missing", a_string(chance))))


def a_kind(chance):
    return (a_number(chance), chance.choice(("num", "text", "bool", "d", "number", "")))


def a_cell(chance):
    data = tuple((a_string(chance), tuple((a_string(chance), tuple(a_kind(chance) for _ in range(chance.randrange(3))))
                                          for _ in range(chance.randrange(3)))) for _ in range(chance.randrange(3)))
    return (a_string(chance), (a_kind(chance), data), an_outcome(chance))


THINGS = {
    "number": a_number, "integer": lambda chance: chance.choice((1, -1)) * a_number(chance), "string": a_string,
    "deed": a_deed, "packet": triples, "value": a_value, "outcome": an_outcome, "cell": a_cell,
    "group": lambda chance: (triples(chance), [a_cell(chance) for _ in range(chance.randrange(3))]),
}


class ReaderCase(unittest.TestCase):
    def assert_read(self, word, thing, data):
        """The bytes are the written form of the thing, whatever follows."""
        for more in ([], [0], [255] * 70, [1, 2, 3]):
            for before in ([], [9, 128]):
                given = before + data + more
                reader = Reader(given)
                for _ in before:
                    reader.at += 1
                # repr, since True is no number, and a list is no tuple.
                self.assertEqual(repr(read(word, reader)), repr(thing))
                self.assertEqual(reader.at, len(before) + len(data))
                self.assertEqual(given, before + data + more)
        self.assertIsNone(reader_at_end(word, data).end())

    def assert_damaged(self, word, data):
        with self.assertRaises(DamagedPacket):
            read(word, Reader(data))

    def assert_form(self, word, data):
        """Any bytes are a written form at their front, or are damaged."""
        reader = Reader(data)
        try:
            thing = read(word, reader)
        except DamagedPacket:
            return False
        self.assertEqual(written(word, thing), data[:reader.at])
        return True


def reader_at_end(word, data):
    reader = Reader(data)
    read(word, reader)
    return reader


class RoundTest(ReaderCase):
    def test_what_is_written_is_read_back(self):
        chance = random.Random(50)
        for word, make in THINGS.items():
            for _ in range(60):
                thing = make(chance)
                self.assert_read(word, thing, written(word, thing))

    def test_bytes_that_are_cut_off(self):
        chance = random.Random(51)
        for word, make in THINGS.items():
            for _ in range(25):
                data = written(word, make(chance))
                for size in range(len(data)):
                    self.assert_damaged(word, data[:size])

    def test_bytes_that_are_changed(self):
        chance = random.Random(52)
        for word, make in THINGS.items():
            found = {True: 0, False: 0}
            for _ in range(120):
                data = written(word, make(chance))
                for _ in range(10):
                    place = chance.randrange(len(data))
                    other = chance.choice((0, 1, 2, 3, 4, 5, 127, 128, 255, chance.randrange(256)))
                    found[self.assert_form(word, data[:place] + [other] + data[place + 1:] + [0, 0])] += 1
            self.assertGreater(found[True], 20, word)
            if word not in ("number", "integer"):
                self.assertGreater(found[False], 20, word)

    def test_any_bytes(self):
        chance = random.Random(53)
        for word in THINGS:
            for most in (3, 6, 130, 256):
                for _ in range(150):
                    self.assert_form(word, [chance.randrange(most) for _ in range(chance.randrange(30))])
            for first in range(256):
                self.assert_form(word, [first])
                for second in (0, 1, 4, 128, 255):
                    self.assert_form(word, [first, second, 1, 0, 0, 0])

    def test_nothing_at_all(self):
        for word in THINGS:
            self.assert_damaged(word, [])

    def test_one_thing_after_another(self):
        data = write_number(300) + write_string("ab") + write_packet([]) + write_value(True)
        reader = Reader(data)
        self.assertEqual((reader.at, reader.read_number(), reader.at), (0, 300, 2))
        self.assertEqual((reader.read_string(), reader.at), ("ab", 5))
        with self.assertRaises(DamagedPacket):
            Reader(data).end()
        self.assertEqual((reader.read_packet(), reader.at), ([], 7))
        self.assertEqual((reader.read_value(), reader.at, len(data)), (True, 9, 9))
        self.assertIsNone(reader.end())

    def test_the_end(self):
        self.assertIsNone(Reader([]).end())
        for data in ([0], [0, 0]):
            with self.assertRaises(DamagedPacket):
                Reader(data).end()

    def test_the_list_that_is_passed_is_not_kept(self):
        data = [1, 97, 5]
        reader = Reader(data)
        data[1] = 98
        data.append(1)
        self.assertEqual((reader.read_string(), reader.read_number()), ("a", 5))
        reader.end()


class NumbersTest(ReaderCase):
    def test_a_needless_last_byte(self):
        for data in ([128, 0], [129, 0], [255, 255, 0], [128] * 59 + [0]):
            self.assert_damaged("number", data)
            self.assert_damaged("integer", [0] + data)
        self.assert_read("number", 128, [128, 1])
        self.assert_read("number", 2 ** 14, [128, 128, 1])

    def test_a_number_of_60_and_of_61_bytes(self):
        self.assert_read("number", 2 ** 413, [128] * 59 + [1])
        self.assert_read("number", 2 ** 420 - 1, [255] * 59 + [127])
        self.assert_damaged("number", [128] * 60 + [1])
        self.assert_damaged("number", [255] * 60 + [127])
        self.assert_damaged("number", [255] * 200)
        self.assert_read("integer", -2 ** 413, [1] + [128] * 59 + [1])
        self.assert_damaged("integer", [1] + [128] * 60 + [1])

    def test_signs(self):
        self.assert_read("integer", 0, [0, 0])
        self.assert_read("integer", -1, [1, 1])
        self.assert_damaged("integer", [1, 0])
        self.assert_damaged("integer", [2, 1])
        self.assert_damaged("integer", [255, 1])


class FormsTest(ReaderCase):
    def test_characters_that_no_text_has(self):
        for code in range(256):
            if code == 10 or (32 <= code <= 126 and code != 37):
                self.assert_read("string", chr(code), [1, code])
            else:
                self.assert_damaged("string", [1, code])
                self.assert_damaged("string", [3, 97, code, 97])

    def test_as_many_items_as_bytes_are_left_and_more(self):
        self.assert_read("string", "abc", [3, 97, 98, 99])
        self.assert_damaged("string", [4, 97, 98, 99])
        self.assert_damaged("string", [255, 255, 255, 127, 97, 98, 99])
        self.assert_damaged("string", [255] * 59 + [127, 97])
        for word, front in (("packet", [1]), ("group", []), ("value", [3])):
            self.assert_damaged(word, front + [255] * 59 + [127, 97])
            self.assert_damaged(word, front + [1])
            self.assert_damaged(word, front + [2, 0])

    def test_booleans_and_options(self):
        self.assert_read("value", True, [2, 1])
        self.assert_read("value", False, [2, 0])
        for byte in (2, 3, 128, 255):
            self.assert_damaged("value", [2, byte])
            self.assert_damaged("deed", [0, 0, 0, byte, 1, 1, 1, 0])
        self.assert_read("deed", ("change", "", (), None, 1, ""), [0, 0, 0, 0, 1, 0])
        self.assert_read("deed", ("change", "", (), (3, 2), 1, ""), [0, 0, 0, 1, 3, 2, 1, 0])

    def test_first_bytes(self):
        for byte in range(256):
            if byte > 1:
                self.assert_damaged("deed", [byte, 1, 1, 1, 1, 1, 1])
                self.assert_damaged("outcome", [byte, 0, 0, 0])
            if byte > 4:
                self.assert_damaged("value", [byte, 0, 0, 0])
            if byte > 5:
                self.assert_damaged("outcome", [1, byte, 0, 0])
            if byte != 1:
                self.assert_damaged("packet", [byte, 0])
            if byte > 3:
                self.assert_damaged("cell", [0, 0, byte, 0, 1, 0, 0])

    def test_data_that_are_called_like_another_base(self):
        for name in ("num", "text", "bool"):
            self.assert_damaged("cell", [0, 0, 3] + write_string(name) + [0, 1, 0])
            shape = ((0, "d"), (("d", (("D", ((0, name),)),)),))
            data = write_cell("", shape, DIVISION)
            place = data.index(68) + 3
            self.assert_damaged("cell", data[:place] + [3] + write_string(name) + data[place + 1:])
            self.assert_read("cell", ("", shape, DIVISION), data)
        # Only the base of a type may not be called so.
        self.assert_read("cell", ("num", ((0, "list"), (("bool", (("text", ()),)),)), DIVISION),
                         write_cell("num", ((0, "list"), (("bool", (("text", ()),)),)), DIVISION))

    def test_only_the_form_is_checked(self):
        self.assert_read("deed", ("change", "", ((0, 99),), (0, 0), 0, ""), [0, 0, 1, 0, 99, 1, 0, 0, 0, 0])
        self.assert_read("deed", ("back", 0), [1, 0])
        self.assert_read("packet", [(99, 0, ("back", 0))], [1, 1, 99, 0, 1, 0])
        self.assert_read("value", 2 ** 200, write_value(2 ** 200))
        self.assert_read("value", ("list", (1,) * 1500), write_value(("list", (1,) * 1500)))
        self.assert_read("cell", ("c", ((0, "num"), ()), value("a")), write_cell("c", ((0, "num"), ()), value("a")))

    def test_values_that_are_40_and_41_deep(self):
        for end, front, wrap in (
            (listed(), [3, 1], lambda inside: listed(inside)), (made("A"), [3, 1], lambda inside: listed(inside)),
            (7, [4, 1, 65, 1], lambda inside: made("A", inside)), ("a", [3, 1], lambda inside: listed(inside)),
            (True, [4, 1, 65, 1], lambda inside: made("A", inside)),
        ):
            deep = end
            for _ in range(39):
                deep = wrap(deep)
            self.assert_read("value", deep, front * 39 + write_value(end))
            self.assert_damaged("value", front * 40 + write_value(end))
            self.assert_read("outcome", value(deep), [0] + front * 39 + write_value(end))
            self.assert_damaged("outcome", [0] + front * 40 + write_value(end))
        self.assert_damaged("value", [3, 1] * 100000)
        # Only the deepest item counts.
        self.assert_damaged("value", [3, 2, 2, 0] * 40 + [2, 0])
        self.assert_damaged("value", [3, 3, 2, 0] + [3, 1] * 39 + [3, 0] + [2, 0])


if __name__ == "__main__":
    unittest.main()
