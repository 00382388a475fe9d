import random
import unittest

from quillrun.codes import write_cell, write_deed, write_group, write_number
from quillrun.documents import Deeds
from quillrun.log import (Base, checksum, counting_file, log_start, read_log, read_records, write_note, write_record)
from test_reading import a_cell, a_deed
from texts import DIVISION, listed, value

NUM = ((0, "num"), ())
TEXT = ((0, "text"), ())
ONE = ("change", "m", (), None, 1, "ab")
TWO = ("change", "m", ((1, 0),), (2, 0), 3, "")
UNFIT = ("change", "", ((9, 9),), (99, 99), 0, "ab")
EMPTY = ((), (), (), (), (), (), (), ())


def rows(**deeds):
    """The deeds of a base, r0 for those of replica 0."""
    return tuple(tuple(deeds.get(f"r{replica}", ())) for replica in range(8))


def sums(data):
    """Point [52] word by word: the bytes of the checksum."""
    total = 7
    for byte in data:
        total = (31 * total + byte + 1) % 4294967296
    return [total >> 24, total >> 16 & 255, total >> 8 & 255, total & 255]


def record(data):
    return write_number(len(data)) + data + sums(data)


class RecordsTest(unittest.TestCase):
    RECORDS = ([], [0], [255, 0, 128], [7] * 127, [8] * 128, [1, 2, 3])

    def test_the_checksum(self):
        self.assertEqual(checksum([]), 7)
        self.assertEqual(checksum([0]), 218)
        self.assertEqual(checksum([255]), 473)
        self.assertEqual(checksum([2, 1]), 31 * 220 + 2)
        total = 7
        for byte in [200] * 50:
            total = (31 * total + 201) % 2 ** 32
        self.assertEqual(checksum([200] * 50), total)

    def test_records_byte_by_byte(self):
        self.assertEqual(write_record([]), [0, 0, 0, 0, 7])
        self.assertEqual(write_record([0]), [1, 0, 0, 0, 0, 218])
        self.assertEqual(write_record([255]), [1, 255, 0, 0, 1, 217])
        for data in self.RECORDS:
            given = list(data)
            found = write_record(given)
            self.assertEqual(found, record(data))
            self.assertEqual(given, data)
        self.assertEqual(write_record([8] * 128)[:3], [128, 1, 8])

    def test_several_records(self):
        data = [byte for one in self.RECORDS for byte in record(one)]
        self.assertEqual(read_records(data), (list(self.RECORDS), len(data)))
        self.assertEqual(read_records([]), ([], 0))
        self.assertIs(type(read_records(data)), tuple)

    def test_records_that_are_cut_at_every_byte(self):
        ends = [0]
        for one in self.RECORDS:
            ends.append(ends[-1] + len(record(one)))
        data = [byte for one in self.RECORDS for byte in record(one)]
        for size in range(len(data) + 1):
            count = max(k for k, end in enumerate(ends) if end <= size)
            self.assertEqual(read_records(data[:size]), (list(self.RECORDS[:count]), ends[count]))

    def test_a_byte_that_is_changed(self):
        data = record([5, 6]) + record([1, 2, 3]) + record([9])
        for place in range(len(record([5, 6])), len(record([5, 6]) + record([1, 2, 3]))):
            for change in (1, 7, 128):
                damaged = list(data)
                damaged[place] = (damaged[place] + change) % 256
                self.assertEqual(read_records(damaged), ([[5, 6]], len(record([5, 6]))), place)

    def test_a_number_that_is_not_in_its_written_form(self):
        good = record([4])
        for number in ([129, 0], [129, 128, 0], [128] * 60 + [1], [255] * 70):
            self.assertEqual(read_records(good + number + [4] + sums([4]) + good), ([[4]], len(good)))
        self.assertEqual(read_records([128, 0] + sums([])), ([], 0))

    def test_the_list_that_is_passed(self):
        data = record([4]) + [3]
        found, _ = read_records(data)
        self.assertEqual(data, record([4]) + [3])
        found[0].append(5)
        self.assertEqual(read_records(data), ([[4]], 6))


class BaseTest(unittest.TestCase):
    CELLS = [("c", NUM, value(1)), ("b", TEXT, DIVISION), ("c", TEXT, value("a"))]

    def test_an_empty_base(self):
        base = Base()
        self.assertEqual((base.commits, base.deeds.counts(), base.held), (0, [0] * 8, {}))
        self.assertIsInstance(base.deeds, Deeds)
        self.assertEqual(base.data(), (0, EMPTY, ()))

    def test_a_base_that_grows(self):
        base = Base()
        grown = base.grown([(0, 1, ONE), (3, 1, ("back", 1)), (0, 2, TWO)], self.CELLS)
        self.assertEqual(grown.data(), (1, rows(r0=(ONE, TWO), r3=(("back", 1),)),
                                        (("b", TEXT, DIVISION), ("c", TEXT, value("a")))))
        self.assertEqual(grown.held, {"b": (TEXT, DIVISION), "c": (TEXT, value("a"))})
        self.assertEqual(grown.deeds.text("m"), "b")
        self.assertEqual(base.data(), (0, EMPTY, ()))
        further = grown.grown([], [("a", NUM, value(7)), ("b", NUM, value(8))])
        self.assertEqual(further.data(), (2, rows(r0=(ONE, TWO), r3=(("back", 1),)),
                                          (("a", NUM, value(7)), ("b", NUM, value(8)), ("c", TEXT, value("a")))))
        self.assertEqual(grown.data()[2], (("b", TEXT, DIVISION), ("c", TEXT, value("a"))))
        self.assertEqual(grown.grown([], []).data(), (2, *grown.data()[1:]))

    def test_the_lists_that_are_passed(self):
        triples, cells = [(0, 1, ONE)], list(self.CELLS)
        grown = Base().grown(triples, cells)
        triples.append((0, 2, TWO))
        cells.clear()
        self.assertEqual(grown.data(), (1, rows(r0=(ONE,)), (("b", TEXT, DIVISION), ("c", TEXT, value("a")))))

    def test_deeds_that_do_not_fit(self):
        self.assertEqual(Base().grown([(5, 1, UNFIT), (5, 2, ("back", 9))], []).data(),
                         (1, rows(r5=(UNFIT, ("back", 9))), ()))

    def test_a_copy_shares_nothing(self):
        base = Base().grown([(0, 1, ONE)], self.CELLS)
        copied = base.copy()
        self.assertEqual(copied.data(), base.data())
        data = base.data()
        copied.commits += 1
        copied.deeds.add(0, TWO)
        copied.held["x"] = (NUM, value(1))
        del copied.held["c"]
        self.assertEqual(base.data(), data)
        self.assertEqual(base.deeds.text("m"), "ab")
        self.assertEqual(copied.data(), (2, rows(r0=(ONE, TWO)), (("b", TEXT, DIVISION), ("x", NUM, value(1)))))


class LogStartTest(unittest.TestCase):
    def test_of_an_empty_base(self):
        self.assertEqual(log_start(1, Base()), record([1, 1]) + record([3, 0] + [0] * 8 + [0]) + record([2]))
        self.assertEqual(log_start(300, Base())[:10], record([1, 172, 2])[:8] + [11, 3])

    def test_of_a_base(self):
        base = Base().grown([(0, 1, ONE), (7, 1, ("back", 1)), (0, 2, TWO)], BaseTest.CELLS)
        deeds = [2] + write_deed(ONE) + write_deed(TWO) + [0] * 6 + [1] + write_deed(("back", 1))
        cells = [2] + write_cell("b", TEXT, DIVISION) + write_cell("c", TEXT, value("a"))
        self.assertEqual(log_start(2, base), record([1, 2]) + record([3, 1] + deeds + cells) + record([2]))

    def test_notes(self):
        self.assertEqual(write_note([], []), record([4, 0, 0]))
        self.assertEqual(write_note([(0, 1, ONE)], BaseTest.CELLS), record([4] + write_group([(0, 1, ONE)], BaseTest.CELLS)))


class ReadLogTest(unittest.TestCase):
    def setUp(self):
        self.base = Base().grown([(0, 1, ONE), (7, 1, ("back", 1))], [("b", TEXT, DIVISION), ("c", NUM, value(1))])
        self.start = log_start(5, self.base)

    def assert_nothing(self, data):
        self.assertIsNone(read_log(data))

    def assert_told(self, data, turn, base, size):
        given = list(data)
        found = read_log(data)
        self.assertIs(type(found), tuple)
        self.assertIsInstance(found[1], Base)
        self.assertEqual((found[0], found[1].data(), found[2]), (turn, base.data(), size))
        self.assertEqual(data, given)

    def test_without_notes(self):
        self.assert_told(self.start, 5, self.base, len(self.start))
        self.assert_told(log_start(0, Base()), 0, Base(), len(log_start(0, Base())))

    def test_with_notes(self):
        one = ([(0, 2, TWO), (3, 1, ONE)], [("c", TEXT, value("x")), ("a", NUM, value(2)), ("c", NUM, value(9))])
        other = ([], [("b", NUM, value(4))])
        data = self.start + write_note(*one) + write_note(*other)
        self.assert_told(data, 5, self.base.grown(*one).grown(*other), len(data))
        self.assertEqual(read_log(data)[1].commits, 3)

    def test_deeds_that_do_not_fit_are_taken(self):
        group = ([(0, 2, UNFIT), (0, 3, ("back", 77)), (2, 1, ("back", 0))], [])
        data = self.start + write_note(*group)
        self.assert_told(data, 5, self.base.grown(*group), len(data))
        told = read_log(data)[1]
        self.assertEqual(told.deeds.text("m"), "ab")
        self.assert_told(log_start(6, told), 6, told, len(log_start(6, told)))

    def test_the_three_records_at_the_front(self):
        first, second, third = read_records(self.start)[0]
        whole = [record(first), record(second), record(third)]
        size = len(self.start)
        self.assert_told(whole[0] + whole[1] + whole[2], 5, self.base, size)
        for count in range(3):
            self.assert_nothing([byte for one in whole[:count] for byte in one])
            self.assert_nothing([byte for place, one in enumerate(whole) if place != count for byte in one])
            # A byte more, and a byte less.
            longer = [*whole[:count], record([first, second, third][count] + [0]), *whole[count + 1:]]
            self.assert_nothing([byte for one in longer for byte in one])
            shorter = [*whole[:count], record([first, second, third][count][:-1]), *whole[count + 1:]]
            self.assert_nothing([byte for one in shorter for byte in one])
            for other in ([], [0], [1], [5, 5], write_note([], [])[1:-4], second[1:], [3], [2, 2], [1, 129, 0]):
                changed = [*whole[:count], record(other), *whole[count + 1:]]
                self.assert_nothing([byte for one in changed for byte in one])
        self.assert_nothing(whole[1] + whole[0] + whole[2])
        self.assert_nothing([])

    def test_a_log_that_is_cut_at_every_byte(self):
        groups = [([(0, 2, TWO)], [("a", NUM, value(2))]), ([], [("a", NUM, value(3))]), ([(0, 3, ("back", 2))], [])]
        data, told = list(self.start), [(len(self.start), self.base)]
        for group in groups:
            data += write_note(*group)
            told.append((len(data), told[-1][1].grown(*group)))
        for size in range(len(data) + 1):
            found = [one for one in told if one[0] <= size]
            if found:
                self.assert_told(data[:size], 5, found[-1][1], found[-1][0])
            else:
                self.assert_nothing(data[:size])

    def test_notes_that_are_not_as_told_end_what_is_told(self):
        good, late = write_note([(0, 2, TWO)], []), write_note([], [("a", NUM, value(1))])
        grown = self.base.grown([(0, 2, TWO)], [])
        bare = [4] + write_group([], [])
        for wrong in (
            [(8, 1, ONE)], [(9, 1, ONE)], [(2 ** 100, 1, ONE)], [(0, 2, TWO)], [(0, 4, TWO)], [(0, 0, TWO)],
            [(3, 2, ONE)], [(0, 3, TWO), (0, 3, TWO)], [(0, 3, TWO), (0, 5, TWO)], [(0, 3, TWO), (8, 1, ONE)],
            [(0, 4, TWO), (0, 3, TWO)],
        ):
            self.assert_told(self.start + good + write_note(wrong, []) + late, 5, grown, len(self.start + good))
        for wrong in (bare + [0], bare[:-1], [4], [], [5] + bare[1:], [3] + bare[1:], [2], [1, 5], [4, 1, 0, 3], [4, 0, 1, 0],
                      read_records(self.start)[0][1]):
            self.assert_told(self.start + good + record(wrong) + late, 5, grown, len(self.start + good))
        self.assert_told(self.start + good + late, 5, grown.grown([], [("a", NUM, value(1))]),
                         len(self.start + good + late))

    def test_a_note_of_several_deeds_of_one_replica(self):
        group = ([(0, 2, TWO), (1, 1, ONE), (0, 3, ("back", 2)), (1, 2, TWO)], [])
        data = self.start + write_note(*group)
        self.assert_told(data, 5, self.base.grown(*group), len(data))

    def base_record(self, *cells):
        return [3, 4] + [0] * 8 + [len(cells)] + [byte for cell in cells for byte in write_cell(*cell)]

    def test_cells_in_any_order_and_twice(self):
        cells = [("x", NUM, value(1)), ("a", NUM, value(2)), ("x", TEXT, value("later")), ("b", NUM, DIVISION)]
        data = record([1, 9]) + record(self.base_record(*cells)) + record([2])
        expected = (4, EMPTY, (("a", NUM, value(2)), ("b", NUM, DIVISION), ("x", TEXT, value("later"))))
        self.assertEqual((read_log(data)[1].data(), read_log(data)[2]), (expected, len(data)))

    def test_a_base_that_is_not_as_told(self):
        good = self.base_record(("a", NUM, value(2)))
        for wrong in (good[:-1], good + [0], [4] + good[1:], [3, 4] + [0] * 9 + [1], [3, 4] + [0] * 7 + [1], [3],
                      [3, 132, 0] + good[2:], [3, 4, 1, 9] + good[3:]):
            self.assert_nothing(record([1, 9]) + record(wrong) + record([2]))

    def test_a_base_with_deeds_that_do_not_fit(self):
        base = Base().grown([(1, 1, UNFIT), (1, 2, ("back", 0)), (6, 1, ("back", 3))], [])
        self.assert_told(log_start(2, base), 2, base, len(log_start(2, base)))

    def test_any_logs(self):
        chance = random.Random(54)
        for _ in range(40):
            base, turn = Base(), chance.randrange(300)
            for _ in range(chance.randrange(4)):
                base = base.grown(*self.a_group(chance, base))
            data, told = log_start(turn, base), base
            for _ in range(chance.randrange(4)):
                group = self.a_group(chance, told)
                told = told.grown(*group)
                data = data + write_note(*group)
            self.assert_told(data, turn, told, len(data))
            self.assert_told(data + [1, 2, 3], turn, told, len(data))

    def a_group(self, chance, base):
        counts = base.deeds.counts()
        triples = []
        for _ in range(chance.randrange(4)):
            replica = chance.randrange(8)
            counts[replica] += 1
            triples.append((replica, counts[replica], a_deed(chance)))
        return triples, [a_cell(chance) for _ in range(chance.randrange(3))]


class CountingFileTest(unittest.TestCase):
    def test_all_cases(self):
        one, two, long = log_start(1, Base()), log_start(2, Base()), log_start(128, Base())
        other = log_start(2, Base().grown([(0, 1, ONE)], [("c", NUM, value(listed()))]))
        for first, second, expected in (
            ([], [], None), (one, [], 0), ([], one, 1), (one, two, 1), (two, one, 0), (one, one, 0), (two, other, 0),
            (other, two, 0), (two, long, 1), (long, two, 0), (one[:-1], [], None), ([], two[:-1], None),
            (one, two[:-1], 0), (two[:-1], one, 1), (one[1:], two[1:], None), (one, two + [1], 1), (two + [9], one, 0),
            ([1, 2], [3], None), (log_start(0, Base()), [], 0), ([], log_start(0, Base()), 1),
        ):
            given = (list(first), list(second))
            self.assertEqual(counting_file(first, second), expected)
            self.assertEqual((first, second), given)


if __name__ == "__main__":
    unittest.main()
