import copy
import itertools
import random
import unittest

import texts
from quillrun.cells import outcomes, shape, takes, turned
from quillrun.program import Program
from texts import DIVISION, LARGE, fault, listed, made, value

NUM, TEXT, BOOL = (0, "num"), (0, "text"), (0, "bool")


def plain(kind):
    """The shape of a type without data."""
    return (kind, ())


class ShapeTest(unittest.TestCase):
    PROGRAM = texts.program("""data zero = Zero
data self = End | Self(list self)
data a = A(b, num)
data b = B(c) | NoB(list list a)
data c = C(text, bool) | C2(zero)
data far = Far(a, self)
data other = Other(far)
fun zip() = 1
""")
    ZERO = ("zero", (("Zero", ()),))
    SELF = ("self", (("End", ()), ("Self", ((1, "self"),))))
    A = ("a", (("A", ((0, "b"), NUM)),))
    B = ("b", (("B", ((0, "c"),)), ("NoB", ((2, "a"),))))
    C = ("c", (("C", (TEXT, BOOL)), ("C2", ((0, "zero"),))))
    FAR = ("far", (("Far", ((0, "a"), (0, "self"))),))

    def assert_shape(self, kind, *data):
        self.assertEqual(shape(self.PROGRAM, kind), (kind, data))

    def test_without_data(self):
        for kind in (NUM, TEXT, BOOL, (3, "num"), (12, "text")):
            self.assert_shape(kind)

    def test_data_without_arguments(self):
        self.assert_shape((0, "zero"), self.ZERO)

    def test_data_that_reach_themselves(self):
        self.assert_shape((0, "self"), self.SELF)

    def test_lists_of_data(self):
        self.assert_shape((2, "zero"), self.ZERO)
        self.assert_shape((1, "self"), self.SELF)

    def test_data_that_reach_data_and_each_other(self):
        self.assert_shape((0, "c"), self.C, self.ZERO)
        self.assert_shape((0, "a"), self.A, self.B, self.C, self.ZERO)
        self.assert_shape((0, "b"), self.A, self.B, self.C, self.ZERO)
        self.assert_shape((1, "far"), self.A, self.B, self.C, self.FAR, self.SELF, self.ZERO)

    def assert_changes(self, before, after, is_changed=True):
        """The shape of `d` in two programs."""
        first, second = (shape(texts.program(text), (0, "d")) for text in (before, after))
        self.assertEqual(first != second, is_changed, (before, after))

    def test_makers_that_come_go_and_move(self):
        self.assert_changes("data d = A | B\n", "data d = A | B | C\n")
        self.assert_changes("data d = A | B\n", "data d = A\n")
        self.assert_changes("data d = A | B\n", "data d = B | A\n")
        self.assert_changes("data d = A | B\n", "data d = A | E\n")
        self.assert_changes("data d = A(e) | B\ndata e = E\n", "data d = A(e) | B\ndata e = E | F\n")
        self.assert_changes("data d = A(list e)\ndata e = E(f)\ndata f = F\n", "data d = A(list e)\ndata e = E(f)\ndata f = G\n")

    def test_types_of_makers_that_change(self):
        self.assert_changes("data d = A(num)\n", "data d = A(text)\n")
        self.assert_changes("data d = A(num)\n", "data d = A(list num)\n")
        self.assert_changes("data d = A(num, text)\n", "data d = A(text, num)\n")
        self.assert_changes("data d = A(num)\n", "data d = A\n")
        self.assert_changes("data d = A(e)\ndata e = E\n", "data d = A(f)\ndata f = E\n")

    def test_what_makes_no_difference(self):
        self.assert_changes("data d = A(e)\ndata e = E\n", "data e = E\ndata g = G(d)\ndata d = A(e)\n", False)
        self.assert_changes("data d = A | B\n", "fun f() = A\ndata d = A() | B\n", False)


class TakesTest(unittest.TestCase):
    PROGRAM = texts.program("""fun same(x) = x
fun wrap(x) = [x]
fun first(l) = case l of [] -> first(l); h :: t -> h end
fun one(x) = 1
fun inc(x) = x + 1
fun loop(x) = loop(x)
fun two(x, y) = x
fun none() = 1
fun bad(x) = x + 'a'
view v = 1
cell c : num = 1
act a(x) = then x
""")

    def assert_takes(self, name, before, after, expected=True):
        self.assertIs(takes(self.PROGRAM, name, before, after), expected, (name, before, after))

    def test_functions_with_one_parameter(self):
        self.assert_takes("same", NUM, NUM)
        self.assert_takes("same", (2, "tree"), (2, "tree"))
        self.assert_takes("same", NUM, TEXT, False)
        self.assert_takes("wrap", NUM, (1, "num"))
        self.assert_takes("wrap", (1, "text"), (2, "text"))
        self.assert_takes("wrap", NUM, (1, "text"), False)
        self.assert_takes("wrap", NUM, NUM, False)
        self.assert_takes("first", (1, "num"), NUM)
        self.assert_takes("first", NUM, NUM, False)
        self.assert_takes("one", TEXT, NUM)
        self.assert_takes("one", TEXT, TEXT, False)
        self.assert_takes("inc", NUM, NUM)
        self.assert_takes("inc", BOOL, NUM, False)
        self.assert_takes("loop", NUM, (3, "text"))

    def test_all_others(self):
        for name in ("two", "none", "bad", "v", "c", "a", "stranger"):
            self.assert_takes(name, NUM, NUM, False)


class OutcomesTest(unittest.TestCase):
    def test_the_cells_in_force(self):
        program = texts.program("cell c : num = 1\ncell d : text = 'a'\ncell e : num = 'a'\nview v = c\n")
        held = {"c": (plain(NUM), value(5)), "d": (plain(TEXT), DIVISION), "e": (plain(NUM), value(6)),
                "f": (plain(NUM), value(7))}
        self.assertEqual(outcomes(program, held), {"c": value(5), "d": DIVISION})
        self.assertEqual(outcomes(Program([]), held), {})


class TurnedCase(unittest.TestCase):
    def assert_turned(self, text, held, **expected):
        """The cells that are told hold this afterwards, and the others what they held."""
        program = texts.program(text)
        before = copy.deepcopy(held)
        found = turned(program, held)
        self.assertEqual(found, {**held, **expected}, text)
        for name, (_, outcome) in found.items():
            if outcome[0] == "value":
                self.assertIs(type(outcome[1]), type(({**held, **expected})[name][1][1]))
        self.assertEqual(held, before)
        self.assertIsNot(found, held)
        self.assertEqual(turned(program, found), found)
        for name in program.cells:
            self.assertEqual(found[name][0], shape(program, program.cells[name]))


class BeginTest(TurnedCase):
    def test_nothing(self):
        self.assert_turned("", {})
        self.assert_turned("view v = 1\n", {})

    def test_a_cell_that_held_nothing_begins(self):
        self.assert_turned("cell c : num = 1 + 2\n", {}, c=(plain(NUM), value(3)))
        self.assert_turned("cell c : list num = []\ncell d : list text = []\n", {}, c=(plain((1, "num")), value(listed())),
                           d=(plain((1, "text")), value(listed())))
        self.assert_turned("cell c : num = 1 turn f\nfun f(x) = x\n", {}, c=(plain(NUM), value(1)))

    def test_its_expression_may_call_functions(self):
        self.assert_turned("cell c : num = f(3)\nfun f(x) = if x < 1 then 0 else x + f(x - 1)\n", {},
                           c=(plain(NUM), value(6)))

    def test_a_cell_may_begin_with_a_fault(self):
        self.assert_turned("cell c : num = 1 / 0\n", {}, c=(plain(NUM), DIVISION))
        self.assert_turned("cell c : num = f(12)\nfun f(x) = if x < 1 then 0 else f(x - 1)\n", {},
                           c=(plain(NUM), fault("deep")))
        self.assert_turned("cell c : num = f(11)\nfun f(x) = if x < 1 then 0 else f(x - 1)\n", {}, c=(plain(NUM), value(0)))

    def test_data(self):
        color = ((0, "color"), (("color", (("Red", ()), ("Green", ()))),))
        self.assert_turned("data color = Red | Green\ncell c : color = Green\n", {}, c=(color, value(made("Green"))))

    def test_cells_that_are_not_in_force_hold_nothing_new(self):
        self.assert_turned("cell c : num = 'a'\ncell d : num = d\n", {})


class StaysTest(TurnedCase):
    COLOR = ((0, "color"), (("color", (("Red", ()), ("Green", ()))),))

    def test_what_is_held_with_the_same_shape_stays(self):
        self.assert_turned("cell c : num = 1\n", {"c": (plain(NUM), value(5))})
        self.assert_turned("cell c : num = 1 turn f\nfun f(x) = x + 1\n", {"c": (plain(NUM), value(5))})
        self.assert_turned("data color = Red | Green\ncell c : color = Red\n", {"c": (self.COLOR, value(made("Green")))})

    def test_a_fault_with_the_same_shape_stays(self):
        self.assert_turned("cell c : num = 1\n", {"c": (plain(NUM), DIVISION)})
        self.assert_turned("cell c : num = 1 turn f\nfun f(x) = 1\n", {"c": (plain(NUM), LARGE)})

    def test_cells_that_are_not_in_force_stay_as_they_are(self):
        held = {"c": (plain(NUM), value(5)), "d": (plain(TEXT), DIVISION), "e": (self.COLOR, value(made("Red")))}
        self.assert_turned("", held)
        self.assert_turned("cell c : num = 'a'\nview d = 1\n", held)
        self.assert_turned("cell c : text = d\ncell d : num = 1\n", held, d=(plain(NUM), value(1)))

    def test_also_when_the_definition_was_not_in_force_meanwhile(self):
        first = texts.program("data color = Red | Green\ncell c : color = Red\n")
        held = {**turned(first, {}), "c": (self.COLOR, value(made("Green")))}
        for between in ("", "cell c : color = Red\n", "cell c : num = 'a'\n", "data color = Red\n", "view c = 1\n"):
            self.assertEqual(turned(first, turned(texts.program(between), held)), held)

    def test_another_type_in_between_makes_it_begin(self):
        first = texts.program("cell c : num = 1\n")
        held = turned(texts.program("cell c : text = 'a'\n"), {"c": (plain(NUM), value(5))})
        self.assertEqual(held, {"c": (plain(TEXT), value("a"))})
        self.assertEqual(turned(first, held), {"c": (plain(NUM), value(1))})


class TurnTest(TurnedCase):
    def test_a_turn_that_fits(self):
        held = {"c": (plain(NUM), value(5))}
        self.assert_turned("cell c : list num = [] turn f\nfun f(x) = [x, x + 1]\n", held,
                           c=(plain((1, "num")), value(listed(5, 6))))
        self.assert_turned("cell c : text = 'a' turn f\nfun f(x) = if x < 1 then 'b' else 'c'\n", held,
                           c=(plain(TEXT), value("c")))
        self.assert_turned("cell c : list num = [] turn f\nfun f(x) = [x]\n", held, c=(plain((1, "num")), value(listed(5))))

    def test_without_a_turn_it_begins(self):
        self.assert_turned("cell c : list num = [7]\nfun f(x) = [x]\n", {"c": (plain(NUM), value(5))},
                           c=(plain((1, "num")), value(listed(7))))

    def test_a_turn_that_does_not_fit_by_its_types(self):
        self.assert_turned("cell c : text = 'a' turn f\nfun f(x) = if x then 'b' else 'c'\n", {"c": (plain(NUM), value(5))},
                           c=(plain(TEXT), value("a")))
        # The result of some instance is a list of texts, but not of the one that takes a number.
        self.assert_turned("cell c : list text = ['a'] turn f\nfun f(x) = [x]\n", {"c": (plain(NUM), value(5))},
                           c=(plain((1, "text")), value(listed("a"))))
        self.assert_turned("cell c : list text = ['a'] turn f\nfun f(x) = x\n", {"c": (plain((1, "num")), value(listed()))},
                           c=(plain((1, "text")), value(listed("a"))))

    def test_the_types_decide_and_not_the_value(self):
        self.assert_turned("cell c : num = 1 turn f\nfun f(l) = case l of [] -> 7; h :: t -> 8 end\n",
                           {"c": (plain((1, "text")), value(listed()))}, c=(plain(NUM), value(7)))
        self.assert_turned("cell c : num = 1 turn f\nfun f(l) = case l of [] -> 7; h :: t -> h end\n",
                           {"c": (plain((1, "text")), value(listed()))}, c=(plain(NUM), value(1)))

    def test_a_turn_that_comes_to_a_fault(self):
        self.assert_turned("cell c : list num = [9] turn f\nfun f(x) = [1 / x]\n", {"c": (plain(NUM), value(0))},
                           c=(plain((1, "num")), value(listed(9))))
        self.assert_turned("cell c : list num = [1 / 0] turn f\nfun f(x) = [1 / x]\n", {"c": (plain(NUM), value(0))},
                           c=(plain((1, "num")), DIVISION))
        self.assert_turned("cell c : list num = [9] turn f\nfun f(x) = f(x)\n", {"c": (plain(NUM), value(0))},
                           c=(plain((1, "num")), value(listed(9))))

    def test_the_call_of_a_turn_lies_at_depth_1(self):
        text = "cell c : list num = [] turn f\nfun f(x) = [g(x)]\nfun g(x) = if x < 1 then 0 else g(x - 1)\n"
        for number, expected in ((10, listed(0)), (11, listed())):
            self.assert_turned(text, {"c": (plain(NUM), value(number))}, c=(plain((1, "num")), value(expected)))

    def test_a_held_fault_with_another_shape(self):
        self.assert_turned("cell c : list num = [9] turn f\nfun f(x) = [1]\n", {"c": (plain(NUM), DIVISION)},
                           c=(plain((1, "num")), value(listed(9))))

    def test_the_value_of_a_cell_that_was_not_in_force(self):
        held = turned(texts.program("cell c : num = 'a'\n"), {"c": (plain(NUM), value(5))})
        self.assert_turned("cell c : list num = [] turn f\nfun f(x) = [x]\n", held, c=(plain((1, "num")), value(listed(5))))

    def test_each_cell_by_itself(self):
        held = {"a": (plain(NUM), value(1)), "b": (plain(NUM), value(2)), "c": (plain(NUM), value(3))}
        self.assert_turned("cell c : text = 'x'\ncell a : list num = [] turn f\ncell b : num = 9\nfun f(x) = [x]\n", held,
                           a=(plain((1, "num")), value(listed(1))), c=(plain(TEXT), value("x")))


class TurnOfDataTest(TurnedCase):
    OLD = ((0, "old"), (("old", (("A", ()), ("B", (NUM,)))),))
    NEW = ((0, "new"), (("new", (("X", ()), ("Y", (NUM,)))),))
    TEXT = """data old = A | B(num)
data new = X | Y(num)
cell c : new = X turn f
fun f(o) = case o of A -> X; B(k) -> Y(k + 1) end
"""

    def test_from_data_to_other_data(self):
        held = {"c": (self.OLD, value(made("B", 5)))}
        self.assert_turned(self.TEXT, held, c=(self.NEW, value(made("Y", 6))))

    def test_data_that_changed(self):
        for old in ("data old = B(num) | A\n", "data old = A | B(num) | C\n"):
            text = old + "".join(self.TEXT.splitlines(True)[1:])
            if "C" in old:
                text = text.replace("A -> X;", "A -> X; C -> X;")
            held = {"c": (self.OLD, value(made("B", 5)))}
            self.assert_turned(text, held, c=(self.NEW, value(made("X"))))

    def test_data_that_are_not_in_force(self):
        text = "data new = X | Y(num)\ncell c : new = X turn f\nfun f(o) = X\n"
        self.assert_turned(text, {"c": (self.OLD, value(made("A")))}, c=(self.NEW, value(made("X"))))
        text = "data new = X | Y(num)\ncell c : new = Y(1) turn f\nfun f(o) = X\n"
        self.assert_turned(text, {"c": (self.OLD, value(made("A")))}, c=(self.NEW, value(made("Y", 1))))
        self.assert_turned(text + "data old = A | B(num)\n", {"c": (self.OLD, value(made("A")))},
                           c=(self.NEW, value(made("X"))))

    def test_data_that_the_held_data_reach(self):
        inner = ("inner", (("I", (NUM,)),))
        held = {"c": (((1, "old"), (inner, ("old", (("A", ((0, "inner"),)),)))), value(listed()))}
        rows = "cell c : num = 1 turn f\nfun f(x) = 2\ndata old = A(inner)\n"
        self.assert_turned(rows + "data inner = I(num)\n", held, c=(plain(NUM), value(2)))
        self.assert_turned(rows + "data inner = I(text)\n", held, c=(plain(NUM), value(1)))
        self.assert_turned(rows + "data inner = I(num) | J\n", held, c=(plain(NUM), value(1)))

    def test_the_data_of_the_cell_itself_that_changed(self):
        # The same name, other makers: the held value is of a type that is not there any more.
        held = {"c": (self.OLD, value(made("A")))}
        now = ((0, "old"), (("old", (("A", ()), ("B", (NUM,)), ("C", ()))),))
        self.assert_turned("data old = A | B(num) | C\ncell c : old = C turn f\nfun f(x) = x\n", held,
                           c=(now, value(made("C"))))

    def test_a_list_of_the_same_data(self):
        held = {"c": (self.OLD, value(made("B", 5)))}
        now = ((1, "old"), self.OLD[1])
        self.assert_turned("data old = A | B(num)\ncell c : list old = [] turn f\nfun f(x) = [x]\n", held,
                           c=(now, value(listed(made("B", 5)))))


class OrderTest(unittest.TestCase):
    def test_the_order_of_the_definitions_makes_no_difference(self):
        given = texts.definitions("data d = D\ncell c : d = D turn f\ncell b : num = 1\nfun f(x) = D\n")
        held = {"c": (plain(NUM), value(5)), "b": (plain(TEXT), value("a"))}
        told = [turned(Program(list(some)), held) for some in itertools.permutations(given)]
        self.assertTrue(all(one == told[0] for one in told))

    def test_turning_twice_changes_nothing(self):
        chance = random.Random(42)
        rows = ["cell c : num = 1\n", "cell c : list num = [2] turn f\n", "cell c : text = 'a'\n", "fun f(x) = [x]\n",
                "cell d : list num = [] turn f\n", "cell d : num = 1 / 0\n", "cell c : num = c\n", "data d = D\n"]
        held = {}
        for _ in range(100):
            program = texts.program("".join(chance.sample(rows, 4)))
            held = turned(program, held)
            self.assertEqual(turned(program, held), held)


if __name__ == "__main__":
    unittest.main()
