import unittest

from quillrun.codes import (write_cell, write_deed, write_group, write_integer, write_number, write_outcome, write_packet,
                            write_string, write_value)
from texts import DEEP, DIVISION, LARGE, LONG, STUCK, fault, listed, made, value

CHANGE = ("change", "m", ((3, 1), (200, 7)), (4, 0), 300, "a\n~")
CHANGE_BYTES = [0, 1, 109, 2, 3, 1, 128 + 72, 1, 7, 1, 4, 0, 128 + 44, 2, 3, 97, 10, 126]
BARE = ("change", "", (), None, 1, "")
BARE_BYTES = [0, 0, 0, 0, 1, 0]


class CodesCase(unittest.TestCase):
    def assert_bytes(self, found, expected):
        self.assertEqual(found, expected)
        self.assertIs(type(found), list)
        self.assertTrue(all(type(byte) is int and 0 <= byte <= 255 for byte in found), found)


class NumbersTest(CodesCase):
    def test_natural_numbers(self):
        self.assert_bytes(write_number(0), [0])
        self.assert_bytes(write_number(1), [1])
        self.assert_bytes(write_number(127), [127])
        self.assert_bytes(write_number(128), [128, 1])
        self.assert_bytes(write_number(129), [129, 1])
        self.assert_bytes(write_number(255), [255, 1])
        self.assert_bytes(write_number(256), [128, 2])
        self.assert_bytes(write_number(16383), [255, 127])
        self.assert_bytes(write_number(16384), [128, 128, 1])
        self.assert_bytes(write_number(2 ** 100), [128] * 14 + [4])
        self.assert_bytes(write_number(2 ** 420 - 1), [255] * 59 + [127])

    def test_integers(self):
        self.assert_bytes(write_integer(0), [0, 0])
        self.assert_bytes(write_integer(1), [0, 1])
        self.assert_bytes(write_integer(-1), [1, 1])
        self.assert_bytes(write_integer(127), [0, 127])
        self.assert_bytes(write_integer(-128), [1, 128, 1])
        self.assert_bytes(write_integer(300), [0, 128 + 44, 2])
        self.assert_bytes(write_integer(-2 ** 100 + 1), [1] + [255] * 14 + [3])


class StringsTest(CodesCase):
    def test_strings(self):
        self.assert_bytes(write_string(""), [0])
        self.assert_bytes(write_string("a"), [1, 97])
        self.assert_bytes(write_string("\n"), [1, 10])
        self.assert_bytes(write_string(" ~\n'"), [4, 32, 126, 10, 39])

    def test_the_lengths_that_need_another_byte(self):
        self.assert_bytes(write_string("a" * 127), [127] + [97] * 127)
        self.assert_bytes(write_string("b" * 128), [128, 1] + [98] * 128)


class PacketsTest(CodesCase):
    def test_changes(self):
        self.assert_bytes(write_deed(CHANGE), CHANGE_BYTES)
        self.assert_bytes(write_deed(BARE), BARE_BYTES)
        self.assert_bytes(write_deed(("change", "m", ((1, 2),), None, 5, "x")), [0, 1, 109, 1, 1, 2, 0, 5, 1, 120])
        self.assert_bytes(write_deed(("change", "m", (), (1, 2), 5, "x")), [0, 1, 109, 0, 1, 1, 2, 5, 1, 120])

    def test_backs(self):
        self.assert_bytes(write_deed(("back", 1)), [1, 1])
        self.assert_bytes(write_deed(("back", 130)), [1, 130, 1])

    def test_packets(self):
        self.assert_bytes(write_packet([]), [1, 0])
        self.assert_bytes(write_packet([(7, 128, ("back", 3))]), [1, 1, 7, 128, 1, 1, 3])
        self.assert_bytes(write_packet([(0, 1, BARE), (1, 2, CHANGE), (0, 2, ("back", 1))]),
                          [1, 3, 0, 1] + BARE_BYTES + [1, 2] + CHANGE_BYTES + [0, 2, 1, 1])

    def test_many_triples(self):
        self.assert_bytes(write_packet([(0, 1, ("back", 1))] * 128), [1, 128, 1] + [0, 1, 1, 1] * 128)


class ValuesTest(CodesCase):
    def test_each_form(self):
        self.assert_bytes(write_value(0), [0, 0, 0])
        self.assert_bytes(write_value(1), [0, 0, 1])
        self.assert_bytes(write_value(-5), [0, 1, 5])
        self.assert_bytes(write_value(""), [1, 0])
        self.assert_bytes(write_value("ab"), [1, 2, 97, 98])
        self.assert_bytes(write_value(False), [2, 0])
        self.assert_bytes(write_value(True), [2, 1])
        self.assert_bytes(write_value(listed()), [3, 0])
        self.assert_bytes(write_value(listed(1, True)), [3, 2, 0, 0, 1, 2, 1])
        self.assert_bytes(write_value(made("A")), [4, 1, 65, 0])
        self.assert_bytes(write_value(made("Bc", "x")), [4, 2, 66, 99, 1, 1, 1, 120])

    def test_nested_values(self):
        self.assert_bytes(write_value(listed(listed(), listed(made("A", listed(2), made("B"))))),
                          [3, 2, 3, 0, 3, 1, 4, 1, 65, 2, 3, 1, 0, 0, 2, 4, 1, 66, 0])

    def test_long_and_deep_values(self):
        self.assert_bytes(write_value(("list", (True,) * 130)), [3, 130, 1] + [2, 1] * 130)
        deep = listed()
        for _ in range(50):
            deep = listed(deep)
        self.assert_bytes(write_value(deep), [3, 1] * 50 + [3, 0])


class OutcomesTest(CodesCase):
    def test_values(self):
        self.assert_bytes(write_outcome(value(7)), [0, 0, 0, 7])
        self.assert_bytes(write_outcome(value(True)), [0, 2, 1])
        self.assert_bytes(write_outcome(value(listed("a"))), [0, 3, 1, 1, 1, 97])

    def test_faults(self):
        self.assert_bytes(write_outcome(DIVISION), [1, 0])
        self.assert_bytes(write_outcome(DEEP), [1, 1])
        self.assert_bytes(write_outcome(LARGE), [1, 2])
        self.assert_bytes(write_outcome(fault("missing", "xy")), [1, 3, 2, 120, 121])
        self.assert_bytes(write_outcome(STUCK), [1, 4])
        self.assert_bytes(write_outcome(LONG), [1, 5])


class CellsTest(CodesCase):
    SHAPE = ((2, "d"), (("d", (("D", ()), ("E", ((0, "num"), (1, "text"), (128, "bool"), (3, "e"))))), ("e", (("F", ()),))))
    SHAPE_BYTES = [2, 3, 1, 100, 2, 1, 100, 2, 1, 68, 0, 1, 69, 4, 0, 0, 1, 1, 128, 1, 2, 3, 3, 1, 101, 1, 101, 1, 1, 70, 0]

    def test_the_types_without_data(self):
        for number, base in enumerate(("num", "text", "bool")):
            self.assert_bytes(write_cell("c", ((0, base), ()), DIVISION), [1, 99, 0, number, 0, 1, 0])
            self.assert_bytes(write_cell("c", ((12, base), ()), DIVISION), [1, 99, 12, number, 0, 1, 0])

    def test_data_with_several_makers(self):
        self.assert_bytes(write_cell("cell1", self.SHAPE, value(listed())),
                          [5, 99, 101, 108, 108, 49] + self.SHAPE_BYTES + [0, 3, 0])

    def test_names_of_data_that_begin_like_other_bases(self):
        self.assert_bytes(write_cell("c", ((0, "number"), ()), DIVISION), [1, 99, 0, 3, 6, 110, 117, 109, 98, 101, 114, 0, 1, 0])

    def test_groups(self):
        self.assert_bytes(write_group([], []), [0, 0])
        self.assert_bytes(write_group([(2, 9, ("back", 8))], []), [1, 2, 9, 1, 8, 0])
        self.assert_bytes(write_group([], [("c", ((0, "num"), ()), value(1))]), [0, 1, 1, 99, 0, 0, 0, 0, 0, 0, 1])
        self.assert_bytes(write_group([(0, 1, CHANGE), (0, 2, ("back", 1))],
                                      [("c", self.SHAPE, DIVISION), ("b", ((0, "bool"), ()), value(False))]),
                          [2, 0, 1] + CHANGE_BYTES + [0, 2, 1, 1, 2, 1, 99] + self.SHAPE_BYTES + [1, 0] +
                          [1, 98, 0, 2, 0, 0, 2, 0])


if __name__ == "__main__":
    unittest.main()
