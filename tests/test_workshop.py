import unittest

from plain_workshop import PlainWorkshop, told_by
from quillrun.codes import write_packet
from quillrun.errors import (DamagedPacket, InvalidArgument, NothingToTakeBack, OutOfText, UnfitArguments)
from quillrun.log import Base, log_start, read_log, write_note
from quillrun.workshop import Workshop
from texts import DEEP, DIVISION, LARGE, LONG, fault, listed, made, value

NUM = ((0, "num"), ())
ZEROS = [0] * 8


def made_of(text, replica=0):
    workshop = Workshop(replica)
    workshop.edit("m", 0, 0, text)
    return workshop


class WorkshopCase(unittest.TestCase):
    def state(self, workshop):
        return (told_by(workshop, ("a", "f", "v")), workshop.log(0), workshop.log(1))

    def assert_error(self, error, workshop, method, *given):
        """A call that raises an error changes nothing."""
        before = self.state(workshop)
        with self.assertRaises(error) as caught:
            getattr(workshop, method)(*given)
        self.assertIs(type(caught.exception), error)
        self.assertEqual(self.state(workshop), before)


class NewWorkshopTest(WorkshopCase):
    def test_each_replica(self):
        for replica in range(8):
            workshop = Workshop(replica)
            self.assertEqual(told_by(workshop, ["a"]), ([], [], ZEROS, ([], []), [], (0, 0, 0, 0, 0, 0), [None]))
            self.assertEqual((workshop.log(0), workshop.log(1)), (log_start(1, Base()), []))
            self.assertEqual(workshop.packet(ZEROS), [1, 0])
            workshop.edit("m", 0, 0, "a")
            self.assertEqual(workshop.counts(), [1 if k == replica else 0 for k in range(8)])

    def test_what_is_no_replica(self):
        for wrong in (-1, 8, 9, 2 ** 70, True, False, None, "1", [1], (0,)):
            with self.assertRaises(InvalidArgument):
                Workshop(wrong)

    def test_the_example_of_the_document(self):
        a = Workshop(0)
        self.assertIsNone(a.edit("m", 0, 0, "cell n : num = 1\nact up() = n := n + 1 then n\n"))
        self.assertEqual(a.act("up", []), (value(1), 4, ["n", "up"]))
        self.assertEqual(a.view("n"), (value(2), 0, ["n"]))
        b = Workshop(1)
        self.assertEqual(b.receive(a.packet(b.counts())), 1)
        b.edit("m", len(b.text("m")), 0, "view twice = n + n\n")
        self.assertEqual(b.view("twice"), (value(2), 0, ["n", "twice"]))
        self.assertEqual(a.receive(b.packet(a.counts())), 1)
        self.assertEqual(a.view("twice"), (value(4), 0, ["n", "twice"]))
        self.assertEqual(a.program()[0], [("n", "cell", "num"), ("twice", "view", "num"), ("up", "act", "() : num")])


class EditTest(WorkshopCase):
    def test_edits(self):
        workshop = Workshop(2)
        self.assertIsNone(workshop.edit("m", 0, 0, "abc\n"))
        workshop.edit("m", 1, 2, "xyz")
        workshop.edit("b", 0, 0, "")
        workshop.edit("m", 5, 0, "!")
        self.assertEqual((workshop.text("m"), workshop.text("b"), workshop.text("none")), ("axyz\n!", "", ""))
        self.assertEqual((workshop.modules(), workshop.counts()), (["b", "m"], [0, 0, 4, 0, 0, 0, 0, 0]))
        self.assertEqual(workshop.status()[0], 4)
        self.assertEqual(workshop.packet(ZEROS), write_packet([
            (2, 1, ("change", "m", (), None, 1, "abc\n")), (2, 2, ("change", "m", ((2, 2), (3, 2)), (1, 2), 6, "xyz")),
            (2, 3, ("change", "b", (), None, 10, "")), (2, 4, ("change", "m", (), (4, 2), 11, "!"))]))

    def test_modules_of_any_name(self):
        workshop = Workshop(0)
        for module in ("a", "a" * 40, " ", "\n", "'m'"):
            workshop.edit(module, 0, 0, "x")
        self.assertEqual(workshop.modules(), sorted(["a", "a" * 40, " ", "\n", "'m'"]))
        for module in ("", "a" * 41, "a" * 1000):
            self.assert_error(InvalidArgument, workshop, "edit", module, 0, 0, "x")
            # This error is looked for first.
            self.assert_error(InvalidArgument, workshop, "edit", module, 5, 5, "x")
            self.assertEqual(workshop.text(module), "")

    def test_out_of_text(self):
        workshop = made_of("abc")
        for index, count in ((4, 0), (0, 4), (3, 1), (2, 2), (10, 10)):
            self.assert_error(OutOfText, workshop, "edit", "m", index, count, "x")
        self.assert_error(OutOfText, workshop, "edit", "other", 1, 0, "x")
        self.assert_error(OutOfText, workshop, "edit", "other", 0, 1, "")
        workshop.edit("m", 3, 0, "d")
        workshop.edit("m", 0, 4, "")
        self.assertEqual(workshop.text("m"), "")
        self.assert_error(OutOfText, workshop, "edit", "m", 0, 1, "x")

    def test_back_and_again(self):
        workshop = Workshop(1)
        self.assert_error(NothingToTakeBack, workshop, "back")
        self.assert_error(NothingToTakeBack, workshop, "again")
        workshop.edit("m", 0, 0, "view v = 1\n")
        self.assert_error(NothingToTakeBack, workshop, "again")
        self.assertIsNone(workshop.back())
        self.assertEqual((workshop.text("m"), workshop.modules(), workshop.program()), ("", ["m"], ([], [])))
        self.assert_error(NothingToTakeBack, workshop, "back")
        self.assertIsNone(workshop.again())
        self.assertEqual((workshop.text("m"), workshop.view("v")), ("view v = 1\n", (value(1), 0, ["v"])))
        self.assert_error(NothingToTakeBack, workshop, "again")
        workshop.back()
        self.assertEqual(workshop.packet([0, 2, 0, 0, 0, 0, 0, 0]),
                         write_packet([(1, 3, ("back", 2)), (1, 4, ("back", 1))]))
        workshop.edit("m", 0, 0, "x")
        self.assert_error(NothingToTakeBack, workshop, "again")
        self.assertEqual((workshop.counts()[1], workshop.status()[0]), (5, 5))

    def test_only_own_deeds_are_taken_back(self):
        one, other = made_of("view v = 1\n"), Workshop(1)
        other.receive(one.packet(ZEROS))
        self.assert_error(NothingToTakeBack, other, "back")
        one.back()
        other.receive(one.packet(other.counts()))
        self.assert_error(NothingToTakeBack, other, "again")

    def test_the_lists_that_are_returned_are_nobodys(self):
        workshop = made_of("cell n : num = 1\nview v = n\n5\n")
        before = self.state(workshop)
        workshop.modules().append("x")
        workshop.counts()[0] = 9
        workshop.packet(ZEROS).clear()
        workshop.program()[0].clear()
        workshop.program()[1].clear()
        workshop.cells().clear()
        workshop.log(0).clear()
        workshop.view("n")[2].append("x")
        self.assertEqual(self.state(workshop), before)
        workshop.view("v")[2].append("x")
        self.assertEqual(workshop.view("v"), (value(1), 0, ["n", "v"]))


class PacketTest(WorkshopCase):
    def setUp(self):
        self.one = made_of("cell n : num = 1\n")
        self.one.edit("m", 17, 0, "view v = n\n")
        self.one.edit("b", 0, 0, "x")
        self.packet = self.one.packet(ZEROS)

    def test_what_lies_after_counts(self):
        self.assertEqual(self.one.packet([3, 0, 0, 0, 0, 0, 0, 0]), [1, 0])
        self.assertEqual(self.one.packet([9, 9, 9, 9, 9, 9, 9, 9]), [1, 0])
        self.assertEqual(self.one.packet([2, 0, 0, 0, 0, 0, 0, 0]),
                         write_packet([(0, 3, ("change", "b", (), None, 31, "x"))]))

    def test_what_is_taken_once(self):
        other = Workshop(1)
        self.assertEqual(other.receive(self.packet), 3)
        self.assertEqual(other.status()[0], 1)
        before = self.state(other)
        self.assertEqual((other.receive(self.packet), other.receive([1, 0])), (0, 0))
        # No commit, and nothing is done.
        self.assertEqual(self.state(other), before)
        self.assertEqual(self.one.receive(self.packet), 0)

    def test_what_comes_in_part_and_too_early(self):
        other = Workshop(1)
        late = self.one.packet([1, 0, 0, 0, 0, 0, 0, 0])
        before = self.state(other)
        self.assertEqual(other.receive(late), 0)
        self.assertEqual(self.state(other), before)
        first = write_packet([(0, 1, ("change", "m", (), None, 1, "cell n : num = 1\n"))])
        self.assertEqual((other.receive(first), other.receive(late)), (1, 2))
        self.assertEqual((other.status()[0], other.text("m"), other.counts()), (2, self.one.text("m"), self.one.counts()))

    def test_triples_that_are_ignored(self):
        other = Workshop(1)
        deed = ("change", "m", (), None, 1, "a")
        given = [(8, 1, deed), (2 ** 80, 1, deed), (0, 2, deed), (0, 0, deed), (2, 1, ("back", 1)), (3, 1, ("back", 0)),
                 (4, 1, ("change", "", (), None, 1, "a")), (4, 1, ("change", "m" * 41, (), None, 1, "a")),
                 (4, 1, ("change", "m", (), None, 0, "a")), (4, 1, ("change", "m", ((1, 0),), None, 5, "a"))]
        self.assertEqual(other.receive(write_packet(given)), 0)
        self.assertEqual(other.status()[0], 0)
        self.assertEqual(other.receive(write_packet(given + [(5, 1, deed)])), 1)
        self.assertEqual(other.counts(), [0, 0, 0, 0, 0, 1, 0, 0])

    def test_the_note_has_the_triples_in_the_order_in_which_they_were_taken(self):
        other = Workshop(1)
        one, two = ("change", "m", (), None, 1, "cell b : num = 5\ncell a : text = 'x'\n"), ("back", 1)
        given = [(0, 2, two), (3, 1, one), (0, 1, one), (9, 1, one), (3, 1, one)]
        self.assertEqual(other.receive(write_packet(given)), 3)
        note = write_note([(3, 1, one), (0, 1, one), (0, 2, two)],
                          [("a", ((0, "text"), ()), value("x")), ("b", NUM, value(5))])
        self.assertEqual(other.log(0), log_start(1, Base()) + note)

    def test_damaged_packets(self):
        other = Workshop(1)
        for data in ([], [0], [0, 0], [2, 0], [1], [1, 1], [1, 0, 0], [1, 128, 0], self.packet + [0], [255] * 100):
            self.assert_error(DamagedPacket, other, "receive", data)
        for size in range(len(self.packet)):
            self.assert_error(DamagedPacket, other, "receive", self.packet[:size])

    def test_the_list_that_is_passed(self):
        other, data = Workshop(1), list(self.packet)
        other.receive(data)
        self.assertEqual(data, self.packet)
        data.clear()
        self.assertEqual(other.packet(ZEROS), self.packet)


class ProgramTest(WorkshopCase):
    def assert_program(self, text, force, problems=()):
        self.assertEqual(made_of(text).program(), (list(force), list(problems)))

    def test_an_empty_program(self):
        self.assertEqual(Workshop(0).program(), ([], []))
        self.assert_program("", [])
        self.assert_program(" \n  view v = 1\n", [])

    def test_types_in_the_words_of_the_language(self):
        self.assert_program("""data d = D | E(num, list d)
cell c : list list d = []
cell n : num = 1
fun id(x) = x
fun pairs(x, y, l) = case l of [] -> [x = y]; h :: t -> [h] end
fun none() = 'a'
view v = [n]
view any = []
act a() = n := 1 then D
act b(x, y) = n := 2 then x :: y
""", [("any", "view", "list '0"), ("d", "data", None), ("id", "fun", "('0) : '0"), ("n", "cell", "num"),
            ("none", "fun", "() : text"), ("pairs", "fun", "('0, '0, list bool) : list bool"), ("b", "act", "('0, list '0) : list '0"),
            ("c", "cell", "list list d"), ("v", "view", "list num"), ("a", "act", "() : d")])

    def test_problems_with_their_positions(self):
        text = "view v = w\nview n = 1 + 'a'\n5\nview x = 12 12\nview r = r\nview t = 1\nview t = 2\ncell c : num = v\n"
        starts = {row: text.index(row) for row in text.splitlines()}
        self.assert_program(text, [], [
            ("m", 0, ("missing", "w")), ("m", starts["view n = 1 + 'a'"], ("untyped",)), ("m", starts["5"], ("refused",)),
            ("m", starts["view x = 12 12"] + 12, ("refused",)), ("m", starts["view r = r"], ("ring",)),
            ("m", starts["view t = 1"], ("twice", "t")), ("m", starts["view t = 2"], ("twice", "t")),
            ("m", starts["cell c : num = v"], ("missing", "v"))])

    def test_what_stands_before_the_first_chunk_counts(self):
        self.assert_program("\n  \n view\nview v = \n", [], [("m", 10 + 10, ("refused",))])
        text = "  x\nview v = 'open\n"
        self.assert_program(text, [], [("m", text.index("'"), ("refused",))])

    def test_several_modules_in_the_order_of_names(self):
        workshop = Workshop(0)
        workshop.edit("n", 0, 0, "view v = 1\n\nfun\n")
        workshop.edit("m", 0, 0, "view w = v\nview v = 2\n")
        self.assertEqual(workshop.program(), ([], [("m", 0, ("missing", "v")), ("m", 11, ("twice", "v")),
                                                   ("n", 0, ("twice", "v")), ("n", 16, ("refused",))]))
        workshop.edit("B", 0, 0, "cell c : num = f()\nfun f() = v\nview d = 1\n")
        workshop.edit("n", 0, 5, "view 1 ")
        self.assertEqual(workshop.program(), (
            [("d", "view", "num"), ("v", "view", "num"), ("f", "fun", "() : num"), ("w", "view", "num")],
            [("B", 0, ("unsteady",)), ("n", 5, ("refused",)), ("n", 18, ("refused",))]))

    def test_code(self):
        workshop = made_of("cell n : num = 1\ndata d = D\nfun f(x) = x\nview v = n\nact a() = n := 2 then n\nview w = 1 + 'a'\n")
        self.assertEqual(workshop.code("f"), ((("local", 0),),))
        self.assertEqual(workshop.code("v"), ((("look", "n"),),))
        self.assertEqual(workshop.code("a"), ((("push", 2),), (("look", "n"),)))
        for name in ("n", "d", "D", "w", "stranger", ""):
            self.assertIsNone(workshop.code(name))


class CellsTest(WorkshopCase):
    def test_cells_in_force_and_others(self):
        workshop = made_of("cell b : list num = [1]\ncell a : num = 1 / 0\n")
        self.assertEqual(workshop.cells(), [("a", "num", True, DIVISION), ("b", "list num", True, value(listed(1)))])
        workshop.edit("m", 0, len("cell b : list num = [1]\n"), "view b = 1\n")
        self.assertEqual(workshop.cells(), [("a", "num", True, DIVISION), ("b", "list num", False, value(listed(1)))])
        workshop.edit("m", 0, len(workshop.text("m")), "data d = A | B\ncell b : list d = [A]\n")
        self.assertEqual(workshop.cells(), [("a", "num", False, DIVISION), ("b", "list d", True, value(listed(made("A"))))])

    def test_a_cell_that_goes_and_comes_again(self):
        workshop = made_of("cell n : num = 1\nact set(x) = n := x then n\n")
        workshop.act("set", [7])
        workshop.edit("m", 0, 17, "")
        self.assertEqual((workshop.cells(), workshop.view("n")), ([("n", "num", False, value(7))], (fault("missing", "n"), 0, ["n"])))
        workshop.edit("m", 0, 0, "cell n : num = 5\n")
        self.assertEqual((workshop.cells(), workshop.view("n")), ([("n", "num", True, value(7))], (value(7), 0, ["n"])))

    def test_a_cell_of_another_type(self):
        workshop = made_of("cell n : num = 1\n")
        workshop.edit("m", 9, 7, "text = 'a'")
        self.assertEqual(workshop.cells(), [("n", "text", True, value("a"))])
        workshop.edit("m", 9, 10, "list text = [] turn f")
        self.assertEqual(workshop.cells(), [("n", "text", False, value("a"))])
        workshop.edit("m", 0, 0, "fun f(x) = [x ++ x]\n")
        self.assertEqual(workshop.cells(), [("n", "list text", True, value(listed("aa")))])


class NotesTest(WorkshopCase):
    """What makes a commit, and which cells its group has."""

    def setUp(self):
        self.workshop = Workshop(3)
        self.log = log_start(1, Base())

    def assert_note(self, triples, cells):
        self.log = self.log + write_note(triples, cells)
        self.assertEqual((self.workshop.log(0), self.workshop.log(1)), (self.log, []))
        self.assertEqual(read_log(self.log)[1].commits, self.workshop.status()[0])

    def assert_no_note(self):
        self.assertEqual((self.workshop.log(0), self.workshop.log(1)), (self.log, []))

    def test_cells_that_hold_something_for_the_first_time_or_something_else(self):
        text = "cell b : num = 2\ncell a : text = 'a'\ncell c : num = 1 / 0\n"
        self.workshop.edit("m", 0, 0, text)
        self.assert_note([(3, 1, ("change", "m", (), None, 1, text))],
                         [("a", ((0, "text"), ()), value("a")), ("b", NUM, value(2)), ("c", NUM, DIVISION)])
        self.workshop.edit("m", 15, 1, "3")
        self.assert_note([(3, 2, ("change", "m", ((16, 3),), (15, 3), len(text) + 2, "3"))], [])
        self.workshop.edit("m", 0, 17, "")
        marks = tuple((k, 3) for k in (*range(1, 16), len(text) + 2, 17))
        self.assert_note([(3, 3, ("change", "m", marks, None, len(text) + 4, ""))], [])
        self.workshop.back()
        self.assert_note([(3, 4, ("back", 3))], [])

    def test_a_type_that_changes(self):
        self.workshop.edit("m", 0, 0, "data d = A\ncell c : d = A\ncell b : num = 1\n")
        self.log = self.workshop.log(0)
        self.workshop.edit("m", 9, 1, "B | A")
        number = len("data d = A\ncell c : d = A\ncell b : num = 1\n") + 2
        self.assert_note([(3, 2, ("change", "m", ((10, 3),), (9, 3), number, "B | A"))],
                         [("c", ((0, "d"), (("d", (("B", ()), ("A", ()))),)), value(made("A")))])

    def test_acts(self):
        self.workshop.edit("m", 0, 0, """cell b : num = 2
cell a : num = 1
act none() = then a
act swap() = b := a, a := b then a
act keep() = a := a then 1
act bad(x) = a := 5, b := 1 / x then 1
act late(x) = a := 5 then 1 / x
""")
        self.log = self.workshop.log(0)
        self.assertEqual(self.workshop.act("swap", []), (value(1), 3, ["a", "b", "swap"]))
        self.assert_note([], [("b", NUM, value(1)), ("a", NUM, value(2))])
        self.workshop.act("keep", [])
        self.assert_note([], [("a", NUM, value(2))])
        self.workshop.act("bad", [1])
        self.assert_note([], [("a", NUM, value(5)), ("b", NUM, value(1))])
        commits = self.workshop.status()[0]
        self.assertEqual(self.workshop.act("none", []), (value(5), 1, ["a", "none"]))
        self.assertEqual(self.workshop.act("bad", [0]), (DIVISION, 4, ["bad"]))
        self.assertEqual(self.workshop.act("late", [0]), (DIVISION, 4, ["late"]))
        self.assertEqual(self.workshop.act("gone", [0]), (fault("missing", "gone"), 0, ["gone"]))
        self.assertEqual(self.workshop.status()[0], commits)
        self.assert_no_note()

    def test_what_makes_no_commit(self):
        self.workshop.edit("m", 0, 0, "cell n : num = 1\nfun f(x) = x + n\nview v = f(n)\n")
        self.log = self.workshop.log(0)
        self.workshop.call("f", [1])
        self.workshop.view("v")
        self.workshop.receive([1, 0])
        told_by(self.workshop, ["f"])
        self.assert_no_note()
        self.assertEqual(self.workshop.status()[0], 1)


TEXT = """data color = Red | Dye(num)
cell n : num = 5
cell bad : num = 1 / 0
fun f(x) = x + n
fun id(x) = x
fun both(x, y) = x :: y
fun dye(c, l) = [Dye(1), c] = l
fun none() = n
fun off(x) = 1 / x
fun deep(x) = deep(x)
fun many(k) = if k < 1 then 0 else many(k - 1) + many(k - 1)
fun big(x) = x * x
fun bent(x) = x + 'a'
view v = f(n)
view w = v + bad
act set(x) = n := x then v
act any(x, y) = then x = y
act wrong(x) = n := bad then 1
"""


class AnswersCase(WorkshopCase):
    def setUp(self):
        self.workshop = made_of(TEXT)


class CallTest(AnswersCase):
    def test_calls(self):
        self.assertEqual(self.workshop.call("f", [3]), (value(8), 3, ["f", "n"], 6))
        self.assertEqual(self.workshop.call("none", []), (value(5), 1, ["n", "none"], 4))
        self.assertEqual(self.workshop.call("both", [1, listed(2)]), (value(listed(1, 2)), 3, ["both"], 6))
        self.assertEqual(self.workshop.call("id", [listed(made("Red"))]), (value(listed(made("Red"))), 1, ["id"], 4))
        self.assertEqual(self.workshop.call("dye", [made("Red"), listed(made("Dye", 1), made("Red"))])[0], value(True))

    def test_faults(self):
        self.assertEqual(self.workshop.call("off", [0]), (DIVISION, 3, ["off"], 4))
        self.assertEqual(self.workshop.call("deep", [1])[0], DEEP)
        self.assertEqual(self.workshop.call("many", [6])[0], LONG)
        self.assertEqual(self.workshop.call("big", [2 ** 60]), (LARGE, 3, ["big"], 4))

    def test_what_is_no_function_in_force(self):
        for name in ("v", "n", "set", "bent", "color", "Red", "stranger", "m"):
            for values in ([], [1], ["a", True], [2 ** 100], [made("Nothing")]):
                self.assertEqual(self.workshop.call(name, values), (fault("missing", name), 0, [name], 1))

    def test_arguments_of_other_types(self):
        for name, values in (("f", ["a"]), ("f", [True]), ("f", [listed()]), ("f", [made("Red")]), ("both", [1, listed("a")]),
                             ("both", [1, 1]), ("both", [listed(), listed(1)]), ("id", [made("Nothing")]),
                             ("id", [listed(1, "a")]), ("id", [made("Dye", True)]), ("dye", [made("Dye"), listed()]),
                             ("dye", [made("Red"), made("Red")])):
            self.assert_error(UnfitArguments, self.workshop, "call", name, values)

    def test_the_empty_list_has_every_list_type(self):
        self.assertEqual(self.workshop.call("both", [1, listed()])[0], value(listed(1)))
        self.assertEqual(self.workshop.call("both", [listed(), listed(listed(1))])[0], value(listed(listed(), listed(1))))
        self.assertEqual(self.workshop.call("dye", [made("Red"), listed()])[0], value(False))

    def test_other_numbers_of_arguments(self):
        for name, values in (("f", []), ("f", [1, 2]), ("none", [1]), ("both", [1]), ("id", []), ("id", [1, 2])):
            self.assert_error(UnfitArguments, self.workshop, "call", name, values)

    def too_large(self):
        deep = listed()
        for _ in range(40):
            deep = listed(deep)
        return [2 ** 100, -2 ** 100, "a" * 1000, ("list", (1,) * 1000), deep, listed(2 ** 100), listed(1, listed(-2 ** 100)),
                made("Dye", 2 ** 100), listed(made("Red"), made("Dye", -2 ** 100))]

    def just_small(self):
        deep = listed()
        for _ in range(39):
            deep = listed(deep)
        return [2 ** 100 - 1, -2 ** 100 + 1, "a" * 999, ("list", (1,) * 999), deep, listed(2 ** 100 - 1),
                made("Dye", 1 - 2 ** 100)]

    def test_arguments_that_are_too_large(self):
        for large in self.too_large():
            self.assert_error(UnfitArguments, self.workshop, "call", "id", [large])
            self.assert_error(UnfitArguments, self.workshop, "call", "both", [large, listed()])
            self.assert_error(UnfitArguments, self.workshop, "act", "any", [large, large])
        for small in self.just_small():
            self.assertEqual(self.workshop.call("id", [small])[0], value(small))
            self.assertEqual(self.workshop.act("any", [small, small]), (value(True), 3, ["any"]))

    def test_the_list_that_is_passed(self):
        values = [1, listed(2)]
        self.workshop.call("both", values)
        self.workshop.act("any", values[:1] * 2)
        self.assertEqual(values, [1, listed(2)])


class ActTest(AnswersCase):
    def test_acts(self):
        self.assertEqual(self.workshop.act("set", [9]), (value(10), 2, ["f", "n", "set", "v"]))
        self.assertEqual((self.workshop.view("n"), self.workshop.view("v")[0]), ((value(9), 0, ["n"]), value(18)))
        self.assertEqual(self.workshop.act("any", [listed(), listed("a")]), (value(False), 3, ["any"]))

    def test_acts_with_a_fault(self):
        before = self.state(self.workshop)
        self.assertEqual(self.workshop.act("wrong", [1]), (DIVISION, 1, ["bad", "wrong"]))
        self.assertEqual(self.state(self.workshop), before)

    def test_what_is_no_act_in_force(self):
        for name in ("v", "n", "f", "bent", "stranger"):
            for values in ([], [2 ** 100, made("Nothing")]):
                self.assertEqual(self.workshop.act(name, values), (fault("missing", name), 0, [name]))

    def test_arguments_that_do_not_fit(self):
        for name, values in (("set", ["a"]), ("set", []), ("set", [1, 2]), ("set", [True]), ("any", [1, "a"]), ("any", [1]),
                             ("any", [made("Nothing"), made("Nothing")]), ("wrong", [made("Dye", "a")])):
            self.assert_error(UnfitArguments, self.workshop, "act", name, values)

    def test_an_act_without_arguments_of_a_cell_with_data(self):
        workshop = made_of("data d = D(num)\ncell c : list d = []\nact add(x) = c := D(x) :: c then c\n")
        workshop.act("add", [1])
        self.assertEqual(workshop.act("add", [2])[0], value(listed(made("D", 1))))
        self.assertEqual(workshop.cells(), [("c", "list d", True, value(listed(made("D", 2), made("D", 1))))])


class ViewTest(AnswersCase):
    def test_views_and_cells(self):
        self.assertEqual(self.workshop.view("v"), (value(10), 0, ["f", "n", "v"]))
        self.assertEqual(self.workshop.view("w"), (DIVISION, 0, ["bad", "f", "n", "v", "w"]))
        self.assertEqual(self.workshop.view("n"), (value(5), 0, ["n"]))
        self.assertEqual(self.workshop.view("bad"), (DIVISION, 0, ["bad"]))

    def test_what_is_not_in_force(self):
        for name in ("f", "set", "color", "Red", "bent", "stranger"):
            self.assertEqual(self.workshop.view(name), (fault("missing", name), 0, [name]))

    def test_what_is_kept_and_evaluated(self):
        counts = []
        for name in ("n", "v", "v", "w", "stranger", "v"):
            self.workshop.view(name)
            counts.append(self.workshop.status()[4:])
        self.assertEqual(counts, [(0, 0), (1, 1), (1, 1), (2, 2), (2, 2), (2, 2)])
        # Calls and acts keep no views, and what is not read changes none of them.
        self.workshop.call("f", [1])
        self.workshop.act("any", [1, 1])
        self.workshop.edit("x", 0, 0, "view other = 1\n")
        self.assertEqual(self.workshop.status()[4:], (2, 2))
        self.workshop.act("set", [5])
        self.assertEqual(self.workshop.status()[4:], (2, 2))
        self.workshop.act("set", [6])
        self.assertEqual(self.workshop.status()[4:], (0, 2))
        self.assertEqual((self.workshop.view("v")[0], self.workshop.status()[4:]), (value(12), (1, 3)))

    def test_a_boolean_in_the_place_of_a_number(self):
        workshop = made_of("cell n : num = 1\nview v = [n]\n")
        workshop.view("v")
        workshop.edit("m", 9, 7, "bool = true")
        self.assertEqual(repr(workshop.view("v")), repr((value(listed(True)), 0, ["n", "v"])))


class StatusTest(WorkshopCase):
    def test_after_each_call(self):
        workshop = Workshop(0)
        self.assertEqual(workshop.status(), (0, 0, 0, 0, 0, 0))
        workshop.edit("m", 0, 0, "cell n : num = 1\nview v = n\nact up() = n := n + 1 then n\n")
        self.assertEqual(workshop.status(), (1, 3, 3, 2, 0, 0))
        workshop.view("v")
        self.assertEqual(workshop.status(), (1, 3, 3, 2, 1, 1))
        workshop.act("up", [])
        self.assertEqual(workshop.status(), (2, 3, 3, 2, 0, 1))
        workshop.edit("m", 0, 0, "view w = v\n")
        self.assertEqual(workshop.status(), (3, 4, 4, 3, 0, 1))
        workshop.view("w")
        self.assertEqual(workshop.status(), (3, 4, 4, 3, 2, 3))
        workshop.back()
        # Only w itself goes; v reads nothing that changed.
        self.assertEqual(workshop.status(), (4, 4, 4, 3, 1, 3))
        workshop.tidy()
        self.assertEqual(workshop.status(), (4, 4, 4, 3, 1, 3))
        workshop.power(0, 0)
        workshop.open_again()
        self.assertEqual(workshop.status(), (4, 3, 3, 2, 0, 0))

    def test_the_same_chunk_twice(self):
        workshop = made_of("view v = 1\n")
        workshop.edit("n", 0, 0, "view v = 1\n")
        self.assertEqual(workshop.status(), (2, 1, 1, 1, 0, 0))
        workshop.power(0, 0)
        workshop.open_again()
        self.assertEqual(workshop.status(), (2, 1, 0, 0, 0, 0))

    def test_the_plain_workshop_tells_the_same(self):
        plain, workshop = PlainWorkshop(0), Workshop(0)
        workshop.edit("m", 0, 0, TEXT)
        plain.own(("change", "m", (), None, 1, TEXT))
        self.assertEqual(told_by(workshop, ("f", "v", "n")), plain.told(("f", "v", "n")))
        self.assertEqual(workshop.log(0), plain.log)


if __name__ == "__main__":
    unittest.main()
