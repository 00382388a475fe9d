import unittest

from quillrun.errors import PowerOff, WorkshopClosed, WorkshopOpen
from quillrun.log import Base, log_start, read_log, write_note
from quillrun.workshop import Workshop
from texts import fault, value

ZEROS = [0] * 8
TEXT = "cell n : num = 1\nfun f(x) = x\nview v = n\nact set(x) = n := x then n\n"
# Calls of all methods that need an open workshop; some of them would raise other errors there.
CALLS = (("edit", "m", 0, 0, "x"), ("edit", "", 0, 0, "x"), ("edit", "m", 10000, 0, "x"), ("back",), ("again",), ("text", "m"),
         ("modules",), ("counts",), ("packet", ZEROS), ("receive", [1, 0]), ("receive", [9]), ("program",), ("cells",),
         ("code", "f"), ("call", "f", [1]), ("call", "f", []), ("act", "set", [1]), ("act", "set", []), ("view", "v"),
         ("status",), ("tidy",))


def do(workshop, call):
    return getattr(workshop, call[0])(*call[1:])


def begun():
    """A workshop with some commits, one of them with a deed that was taken back, and another one's packet."""
    workshop = Workshop(0)
    workshop.edit("m", 0, 0, TEXT)
    workshop.act("set", [5])
    workshop.edit("m", 0, 0, "view w = 1\n")
    workshop.back()
    return workshop


def packet():
    other = Workshop(1)
    other.edit("b", 0, 0, "cell a : text = 'a'\nview u = a\n")
    other.edit("b", 0, 0, "5\n")
    return other.packet(ZEROS)


COMMITS = (("edit", "m", 3, 2, "abc"), ("edit", "new", 0, 0, "cell z : num = 9\n"), ("back",), ("again",),
           ("receive", packet()), ("act", "set", [77]))


def counting(workshop):
    """The index of the file that counts."""
    return 0 if workshop.log(0) and not workshop.log(1) else 1


def data_of(workshop, index):
    return read_log(workshop.log(index))[1].data()


class PowerCase(unittest.TestCase):
    def assert_off(self, workshop):
        for call in (*CALLS, ("open_again",), ("fail_after", 5)):
            with self.assertRaises(PowerOff):
                do(workshop, call)
        self.assertIs(type(workshop.log(0)), list)
        self.assertIs(type(workshop.log(1)), list)

    def assert_closed(self, workshop):
        for call in CALLS:
            with self.assertRaises(WorkshopClosed):
                do(workshop, call)
        self.assertIs(type(workshop.log(0)), list)

    def assert_open(self, workshop):
        for _ in range(2):
            with self.assertRaises(WorkshopOpen):
                workshop.open_again()
        workshop.status()


class OrderTest(PowerCase):
    def test_an_open_workshop(self):
        self.assert_open(Workshop(0))

    def test_power_that_fails(self):
        workshop = begun()
        workshop.fail_after(3)
        with self.assertRaises(PowerOff):
            workshop.edit("m", 0, 0, "x")
        self.assert_off(workshop)
        self.assertIsNone(workshop.power(0, 0))
        self.assert_closed(workshop)
        self.assertIsNone(workshop.fail_after(100))
        self.assertIsNone(workshop.open_again())
        self.assert_open(workshop)

    def test_power_of_an_open_and_of_a_closed_workshop(self):
        workshop = begun()
        for _ in range(3):
            workshop.power(4, 4)
            self.assert_closed(workshop)
        workshop.open_again()
        self.assertEqual(workshop.view("n"), (value(5), 0, ["n"]))

    def test_a_new_workshop_is_lasting(self):
        for arrived in ((0, 0), (1, 0), (0, 1), (99, 99)):
            workshop = Workshop(4)
            workshop.power(*arrived)
            self.assertEqual((workshop.log(0), workshop.log(1)), (log_start(1, Base()), []))
            workshop.open_again()
            self.assertEqual((workshop.log(0), workshop.log(1), workshop.status()),
                             (log_start(1, Base()), [], (0, 0, 0, 0, 0, 0)))
            workshop.edit("m", 0, 0, "x")
            self.assertEqual(workshop.counts(), [0, 0, 0, 0, 1, 0, 0, 0])

    def test_what_needs_no_steps(self):
        workshop = begun()
        workshop.fail_after(0)
        for call in (("text", "m"), ("modules",), ("counts",), ("packet", ZEROS), ("receive", [1, 0]), ("program",), ("cells",),
                     ("code", "f"), ("call", "f", [1]), ("view", "v"), ("status",), ("log", 0)):
            do(workshop, call)
        self.assertEqual(workshop.act("gone", []), (fault("missing", "gone"), 0, ["gone"]))
        with self.assertRaises(PowerOff):
            workshop.back()

    def test_a_later_failure_replaces_an_earlier_one(self):
        workshop = begun()
        workshop.fail_after(0)
        workshop.fail_after(1000000)
        workshop.edit("m", 0, 0, "x")
        workshop.fail_after(2)
        workshop.fail_after(0)
        size = len(workshop.log(0))
        with self.assertRaises(PowerOff):
            workshop.edit("m", 0, 0, "x")
        self.assertEqual(len(workshop.log(0)), size)

    def test_no_failure_is_set_after_power(self):
        workshop = begun()
        workshop.fail_after(1)
        workshop.power(0, 0)
        workshop.open_again()
        workshop.edit("m", 0, 0, "x")
        workshop.tidy()
        with self.assertRaises(WorkshopOpen):
            workshop.open_again()

    def test_steps_are_counted_over_several_calls(self):
        workshop = begun()
        before = len(workshop.log(0))
        workshop.edit("m", 0, 0, "x")
        needed = len(workshop.log(0)) - before + 1
        # An edit at the same place writes as many bytes.
        workshop.fail_after(2 * needed + 1)
        workshop.edit("m", 0, 0, "y")
        workshop.edit("m", 0, 0, "z")
        with self.assertRaises(PowerOff):
            workshop.edit("m", 0, 0, "u")
        self.assertEqual(len(workshop.log(0)), before + 3 * (needed - 1) + 1)


class CommitsTest(PowerCase):
    """Power fails after every number of steps, and every number of the pending steps has arrived."""

    def test_commits_in_the_first_file(self):
        for call in COMMITS:
            self.assert_commit(begun, 0, call)

    def test_commits_in_the_second_file(self):
        def tidied():
            workshop = begun()
            workshop.tidy()
            return workshop
        for call in COMMITS:
            self.assert_commit(tidied, 1, call)

    def assert_commit(self, begin, index, call):
        before = begin()
        old, data = before.log(index), data_of(before, index)
        do(before, call)
        note, grown = before.log(index)[len(old):], data_of(before, index)
        self.assertEqual(grown[0], data[0] + 1)
        # Every byte of the note and the flush.
        for steps in range(len(note) + 3):
            for arrived in sorted({0, steps - 1, steps, 1000}):
                workshop = begin()
                workshop.fail_after(steps)
                if steps > len(note):
                    do(workshop, call)
                    self.assertEqual(workshop.log(index), old + note)
                else:
                    with self.assertRaises(PowerOff):
                        do(workshop, call)
                    self.assertEqual(workshop.log(index), old + note[:steps])
                    if arrived == 0:
                        self.assert_off(workshop)
                workshop.power(*[max(arrived, 0) if k == index else 1000 for k in range(2)])
                kept = note if steps > len(note) else note[:min(steps, max(arrived, 0))]
                self.assertEqual(workshop.log(index), old + kept)
                workshop.open_again()
                self.assert_told(workshop, index, old + note if kept == note else old, grown if kept == note else data)

    def assert_told(self, workshop, index, log, data):
        self.assertEqual((workshop.log(index), workshop.log(1 - index)), (log, []))
        self.assertEqual((data_of(workshop, index), workshop.status()[0]), (data, data[0]))
        fresh = Workshop(5)
        fresh.receive(workshop.packet(ZEROS))
        self.assertEqual((workshop.text("m"), workshop.program()), (fresh.text("m"), fresh.program()))
        self.assertEqual([(name, shape, outcome) for name, shape, outcome in data[2]],
                         [(name, shape, outcome) for name, shape, outcome in data_of(workshop, index)[2]])
        # It goes on as if nothing had been.
        workshop.edit("z", 0, 0, "x")
        self.assertEqual(workshop.log(index)[:len(log)], log)
        self.assertEqual(workshop.status()[0], data[0] + 1)

    def test_power_without_a_failure_that_was_set(self):
        for call in COMMITS:
            workshop = begun()
            do(workshop, call)
            log = workshop.log(0)
            workshop.power(0, 0)
            self.assertEqual((workshop.log(0), workshop.log(1)), (log, []))
            workshop.open_again()
            self.assertEqual(workshop.log(0), log)


class TidyTest(PowerCase):
    def test_the_files(self):
        workshop = begun()
        base = read_log(workshop.log(0))[1]
        self.assertIsNone(workshop.tidy())
        self.assertEqual((workshop.log(0), workshop.log(1)), ([], log_start(2, base)))
        status = workshop.status()
        workshop.tidy()
        self.assertEqual((workshop.log(0), workshop.log(1)), (log_start(3, base), []))
        self.assertEqual(workshop.status(), status)
        workshop.act("set", [8])
        note = write_note([], [("n", ((0, "num"), ()), value(8))])
        self.assertEqual(workshop.log(0), log_start(3, base) + note)
        workshop.power(0, 0)
        # The truncation of the second file was not flushed.
        self.assertEqual((workshop.log(0), workshop.log(1)), (log_start(3, base) + note, log_start(2, base)))
        workshop.open_again()
        self.assertEqual((workshop.log(0), workshop.log(1)), (log_start(3, base) + note, []))
        workshop.tidy()
        self.assertEqual((workshop.log(0), workshop.log(1)), ([], log_start(4, read_log(log_start(3, base) + note)[1])))

    def test_an_empty_workshop(self):
        workshop = Workshop(0)
        workshop.tidy()
        self.assertEqual((workshop.log(0), workshop.log(1)), ([], log_start(2, Base())))
        workshop.power(0, 0)
        self.assertEqual(workshop.log(0), log_start(1, Base()))
        workshop.open_again()
        self.assertEqual((workshop.log(0), workshop.log(1)), ([], log_start(2, Base())))

    def test_every_number_of_steps(self):
        whole = begun()
        old, base = whole.log(0), read_log(whole.log(0))[1]
        new = log_start(2, base)
        # The truncation, the bytes, the flush, the truncation of the other file.
        needed = 1 + len(new) + 2
        for steps in range(needed + 2):
            for first, second in ((0, 0), (0, 1000), (1000, 0), (1000, 1000), (1, steps), (0, steps - 1)):
                workshop = begun()
                workshop.fail_after(steps)
                if steps >= needed:
                    workshop.tidy()
                else:
                    with self.assertRaises(PowerOff):
                        workshop.tidy()
                    self.assert_off(workshop)
                is_flushed = steps >= needed - 1
                written = new[:max(steps - 1, 0)]
                self.assertEqual((workshop.log(0), workshop.log(1)), ([] if steps >= needed else old, written))
                workshop.power(max(first, 0), max(second, 0))
                self.assert_closed(workshop)
                arrived = new if is_flushed else written[:max(second - 1, 0)]
                self.assertEqual((workshop.log(0), workshop.log(1)),
                                 ([] if steps >= needed and first > 0 else old, arrived))
                workshop.open_again()
                expected = ([], new) if arrived == new else (old, [])
                self.assertEqual((workshop.log(0), workshop.log(1)), expected)
                self.assertEqual((workshop.status()[0], workshop.view("n")), (base.commits, (value(5), 0, ["n"])))
                # Notes go into the file that counts now.
                workshop.act("set", [8])
                note = write_note([], [("n", ((0, "num"), ()), value(8))])
                self.assertEqual((workshop.log(0), workshop.log(1)), tuple(log + note if log else [] for log in expected))


class OpenTest(PowerCase):
    def torn(self, tail=True):
        """A closed workshop whose first file ends within a note; the second one has an older log."""
        workshop = begun()
        workshop.tidy()
        workshop.tidy()
        workshop.act("set", [6])
        if tail:
            workshop.fail_after(4)
            with self.assertRaises(PowerOff):
                workshop.edit("m", 0, 0, "x")
        workshop.power(3, 0)
        return workshop

    def test_what_does_not_count_is_cut_off(self):
        workshop = self.torn()
        base = read_log(workshop.log(0))[1]
        good = log_start(3, read_log(workshop.log(1))[1]) + write_note([], [("n", ((0, "num"), ()), value(6))])
        self.assertEqual((workshop.log(0)[:-3], read_log(workshop.log(1))[0]), (good, 2))
        workshop.open_again()
        self.assertEqual((workshop.log(0), workshop.log(1)), (good, []))
        self.assertEqual((workshop.status()[0], workshop.view("n")), (base.commits, (value(6), 0, ["n"])))

    def test_every_number_of_steps(self):
        for tail in (True, False):
            whole = self.torn(tail)
            before = (whole.log(0), whole.log(1))
            whole.open_again()
            after = (whole.log(0), whole.log(1))
            for steps in range(5):
                for first, second in ((0, 0), (1, 0), (0, 1), (5, 5)):
                    workshop = self.torn(tail)
                    workshop.fail_after(steps)
                    if steps >= 3:
                        workshop.open_again()
                        self.assert_open(workshop)
                    else:
                        with self.assertRaises(PowerOff):
                            workshop.open_again()
                        self.assert_off(workshop)
                    self.assertEqual(workshop.log(0), after[0] if steps > 0 else before[0])
                    self.assertEqual(workshop.log(1), after[1] if steps >= 3 else before[1])
                    workshop.power(first, second)
                    self.assert_closed(workshop)
                    is_cut = steps > 1 or (steps == 1 and first > 0)
                    self.assertEqual(workshop.log(0), after[0] if is_cut else before[0])
                    self.assertEqual(workshop.log(1), after[1] if steps >= 3 and second > 0 else before[1])
                    workshop.open_again()
                    self.assertEqual((workshop.log(0), workshop.log(1)), after)
                    self.assertEqual(workshop.view("n"), (value(6), 0, ["n"]))

    def test_power_that_fails_again_and_again(self):
        workshop = begun()
        for k in range(60):
            workshop.fail_after(k % 4)
            try:
                if k % 3:
                    workshop.act("set", [k])
                else:
                    workshop.tidy()
            except PowerOff:
                pass
            workshop.power(k % 5, k % 2)
            for steps in (0, 1, 2):
                workshop.fail_after(steps)
                with self.assertRaises(PowerOff):
                    workshop.open_again()
                workshop.power(steps % 2, k % 3)
            workshop.open_again()
            self.assertEqual((workshop.status()[0], workshop.view("n")), (4, (value(5), 0, ["n"])))

    def test_the_truncation_of_the_other_file_is_pending_after_opening(self):
        for tidied, arrived, expected in ((False, 0, 0), (False, 1, 0), (False, 2, 1), (True, 1, 0), (True, 2, 0), (True, 3, 1)):
            workshop = begun()
            if tidied:
                workshop.power(0, 0)
                workshop.open_again()
            workshop.fail_after(7)
            with self.assertRaises(PowerOff):
                workshop.tidy()
            workshop.power(0, arrived)
            self.assertEqual(len(workshop.log(1)), expected)

    def emptied(self, first, second):
        """A closed workshop whose files hold these bytes, which no call leaves there."""
        workshop = Workshop(2)
        for file, data in zip(workshop._disk._files, (first, second)):
            file.shorten(0, None)
            file.write(data, None)
            file.flush(None)
        workshop.power(0, 0)
        return workshop

    def test_files_that_tell_nothing(self):
        start = log_start(1, Base())
        # Both truncations, the log and the flush, and then what every opening does.
        needed = 2 + len(start) + 1 + 3
        for first, second in (([], []), ([1, 2], []), ([], [3]), (start[:-1], start[:-1])):
            for steps in (None, *range(needed + 2)):
                workshop = self.emptied(first, second)
                if steps is not None:
                    workshop.fail_after(steps)
                    if steps < needed:
                        with self.assertRaises(PowerOff):
                            workshop.open_again()
                        expected = first if steps == 0 else start[:max(steps - 2, 0)]
                        self.assertEqual((workshop.log(0), workshop.log(1)), (expected, second if steps < 2 else []))
                        workshop.power(steps // 2, steps % 2)
                workshop.open_again()
                self.assertEqual((workshop.log(0), workshop.log(1)), (start, []))
                self.assertEqual((workshop.status(), workshop.modules()), ((0, 0, 0, 0, 0, 0), []))

    def test_the_file_with_the_greater_turn_counts(self):
        one, two = log_start(1, Base()), log_start(2, Base().grown([], [("c", ((0, "num"), ()), value(4))]))
        for first, second, expected in ((one, two, ([], two)), (two, one, (two, [])), (one, log_start(1, Base()), (one, []))):
            workshop = self.emptied(first, second)
            workshop.open_again()
            self.assertEqual((workshop.log(0), workshop.log(1)), expected)
            workshop.tidy()
            turn = read_log(expected[0] or expected[1])[0] + 1
            self.assertEqual(read_log(workshop.log(1) or workshop.log(0))[0], turn)

    def test_the_engine_starts_anew_and_no_view_is_kept(self):
        workshop = begun()
        workshop.view("v")
        workshop.power(0, 0)
        workshop.open_again()
        self.assertEqual(workshop.status(), (4, 4, 4, 3, 0, 0))
        self.assertEqual(workshop.view("v"), (value(5), 0, ["n", "v"]))
        self.assertEqual(workshop.status(), (4, 4, 4, 3, 1, 1))

    def test_cells_hold_what_they_held(self):
        workshop = begun()
        workshop.edit("m", 0, 0, "cell bad : num = 1 / 0\ncell gone : text = 'g'\n")
        workshop.edit("m", 23, 23, "")
        told = (workshop.cells(), workshop.program(), workshop.text("m"))
        for _ in range(2):
            workshop.power(0, 0)
            workshop.open_again()
            self.assertEqual((workshop.cells(), workshop.program(), workshop.text("m")), told)
            workshop.tidy()
        self.assertEqual([cell[:3] for cell in told[0]], [("bad", "num", True), ("gone", "text", False), ("n", "num", True)])


if __name__ == "__main__":
    unittest.main()
