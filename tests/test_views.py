import random
import unittest

import texts
from quillrun.cells import outcomes, turned
from quillrun.meaning import Meaning
from quillrun.program import Program
from quillrun.views import Views
from texts import DIVISION, fault, listed, made, value

TEXT = """cell a : num = 1
cell b : num = 2
view one = a + 1
view two = b + 1
view both = one + through(0)
view chain = both + one
view choice = if a < 5 then one else two
fun through(x) = two + x
view broken = one / 0 + two
view above = broken + b
view plain = 7
view gone = [through]
"""


class Lacking(Program):
    """A program in which views are in force though a name that they read is not."""

    def __init__(self, text, lost):
        super().__init__(texts.definitions(text), lambda found, _: {one[1]: ((), (0, "num")) for one in found})
        self.lost = lost

    def find(self, name):
        return None if name in self.lost else super().find(name)


class AskTest(unittest.TestCase):
    def setUp(self):
        self.program = texts.unjudged(TEXT)
        self.held = turned(texts.program(TEXT), {})
        self.views = Views()

    def assert_ask(self, name, outcome, reads, evaluated, *names):
        found = self.views.ask(self.program, self.held, name)
        self.assertEqual(found, (outcome, reads))
        self.assertIs(type(found), tuple)
        self.assertIs(type(found[1]), list)
        self.assertEqual((self.views.evaluated, self.views.kept()), (evaluated, sorted(names)))

    def test_at_first_none_are_kept(self):
        self.assertEqual((self.views.evaluated, self.views.kept()), (0, []))

    def test_a_view_without_reads(self):
        self.assert_ask("plain", value(7), ["plain"], 1, "plain")

    def test_a_kept_view_is_not_evaluated_again(self):
        for _ in range(3):
            self.assert_ask("one", value(2), ["one", "a"], 1, "one")
        # What is kept is returned, whatever is held: it is `change` that has to be told.
        self.held["a"] = (self.held["a"][0], value(50))
        self.assert_ask("one", value(2), ["one", "a"], 1, "one")

    def test_views_that_are_read_are_kept_too(self):
        self.assert_ask("chain", value(7), ["chain", "both", "one", "a", "through", "two", "b"], 4,
                        "both", "chain", "one", "two")
        self.assert_ask("two", value(3), ["two", "b"], 4, "both", "chain", "one", "two")
        self.assert_ask("both", value(5), ["both", "one", "a", "through", "two", "b"], 4, "both", "chain", "one", "two")

    def test_kept_views_are_not_evaluated_for_others(self):
        self.assert_ask("two", value(3), ["two", "b"], 1, "two")
        self.assert_ask("one", value(2), ["one", "a"], 2, "one", "two")
        self.assert_ask("both", value(5), ["both", "one", "a", "through", "two", "b"], 3, "both", "one", "two")
        self.assert_ask("chain", value(7), ["chain", "both", "one", "a", "through", "two", "b"], 4,
                        "both", "chain", "one", "two")

    def test_only_what_is_read_is_evaluated(self):
        self.assert_ask("choice", value(2), ["choice", "a", "one"], 2, "choice", "one")

    def test_views_with_a_fault_are_kept(self):
        for _ in range(2):
            self.assert_ask("broken", DIVISION, ["broken", "one", "a"], 2, "broken", "one")
        self.assert_ask("above", DIVISION, ["above", "broken", "one", "a"], 3, "above", "broken", "one")
        self.assert_ask("gone", fault("missing", "through"), ["gone", "through"], 4, "above", "broken", "gone", "one")

    def test_the_lists_that_are_returned_are_nobodys(self):
        _, reads = self.views.ask(self.program, self.held, "one")
        reads.append("x")
        self.views.kept().append("y")
        self.assert_ask("one", value(2), ["one", "a"], 1, "one")

    def test_a_long_way_of_views(self):
        text = "view v0 = 1\n" + "".join(f"view v{k} = v{k - 1}\n" for k in range(1, 2000))
        program = texts.unjudged(text)
        outcome, reads = self.views.ask(program, {}, "v1999")
        self.assertEqual((outcome, len(reads), self.views.evaluated), (value(1), 2000, 2000))


class ChangeCase(unittest.TestCase):
    """Each test asks all views of a text and tells which ones stay kept after a change."""

    def assert_change(self, before, after, stay, held_after=None, held_before=None, ask=None):
        program, program_after = texts.unjudged(before), texts.unjudged(after)
        held = turned(program, held_before or {})
        if held_after is None:
            held_after = turned(program_after, held)
        views = Views()
        for definition in program.force:
            if definition[0] == "view" and (ask is None or definition[1] in ask):
                views.ask(program, held, definition[1])
        evaluated = views.evaluated
        self.assertIsNone(views.change(program, held, program_after, held_after))
        self.assertEqual((views.kept(), views.evaluated), (sorted(stay), evaluated))


class DefinitionsChangeTest(ChangeCase):
    TEXT = "cell a : num = 1\nfun f(x) = x\nview v = f(1)\nview w = a\nview u = v\nview alone = 5\n"

    def test_nothing_changed(self):
        self.assert_change(self.TEXT, self.TEXT, ["alone", "u", "v", "w"])
        self.assert_change(self.TEXT, self.TEXT + "view new = 1\ncell b : num = 1\n", ["alone", "u", "v", "w"])

    def test_only_the_text_changed(self):
        self.assert_change(self.TEXT, self.TEXT.replace("f(1)", "(f( 01 ))"), ["alone", "u", "v", "w"])

    def test_the_order_of_definitions_changed(self):
        rows = self.TEXT.splitlines(True)
        self.assert_change(self.TEXT, "".join(rows[::-1]), ["alone", "u", "v", "w"])

    def test_a_function_that_was_called(self):
        self.assert_change(self.TEXT, self.TEXT.replace("= x", "= x + 0"), ["alone", "w"])
        self.assert_change(self.TEXT, self.TEXT.replace("fun f(x) = x\n", ""), ["alone", "w"])
        self.assert_change(self.TEXT, self.TEXT.replace("fun f(x) = x\n", "view f = 1\n"), ["alone", "w"])

    def test_a_definition_that_becomes_twice_made(self):
        self.assert_change(self.TEXT, self.TEXT + "fun f(x) = x\n", ["alone", "w"])
        self.assert_change(self.TEXT + "fun f(x) = x\n", self.TEXT, ["alone", "w"])

    def test_the_definition_of_the_view_itself(self):
        self.assert_change(self.TEXT, self.TEXT.replace("alone = 5", "alone = 6"), ["u", "v", "w"])
        self.assert_change(self.TEXT, self.TEXT.replace("alone = 5", "alone = true"), ["u", "v", "w"])
        self.assert_change(self.TEXT, self.TEXT.replace("view alone = 5\n", ""), ["u", "v", "w"])
        self.assert_change(self.TEXT, self.TEXT.replace("u = v", "u = v + 0"), ["alone", "v", "w"])

    def test_a_view_that_was_read(self):
        self.assert_change(self.TEXT, self.TEXT.replace("v = f(1)", "v = 1"), ["alone", "w"])

    def test_what_was_not_read_may_change(self):
        text = "cell a : num = 1\ncell b : num = 2\nfun f(x) = x\nview v = if a < 5 then a else f(b)\n"
        self.assert_change(text, text.replace("= x", "= x + 1"), ["v"])
        self.assert_change(text, text.replace("b : num = 2", "b : text = 'b'"), ["v"])
        self.assert_change(text, text.replace("a : num = 1", "a : num = 7"), [])

    def test_a_name_that_tells_nothing_as_before(self):
        text = "fun f(x) = x\nview v = f + 1\nview w = act_name(1)\nview u = v(1)\nact act_name() = then 1\n"
        self.assert_change(text, text + "cell other : num = 1\n", ["u", "v", "w"])
        self.assert_change(text, text.replace("= x", "= x + 1"), ["u", "w"])
        self.assert_change(text, text.replace("fun f(x) = x", "cell f : num = 1"), ["u", "w"])
        self.assert_change(text, text.replace("then 1", "then 2"), ["u", "v"])
        self.assert_change(text, text.replace("act act_name() = then 1", "fun act_name(x) = x"), ["u", "v"])

    def assert_missing(self, before, after, stay):
        text = "view nobody = 1\nview v = nobody + 1\nfun lost() = 1\nview w = lost(1)\nview x = v\n"
        program, program_after = Lacking(text, before), Lacking(text, after)
        views = Views()
        for name in ("v", "w", "x"):
            views.ask(program, {}, name)
        views.change(program, {}, program_after, {})
        self.assertEqual(views.kept(), stay)

    def test_a_name_that_is_missing_comes_and_goes(self):
        self.assert_missing(["nobody", "lost"], ["nobody", "lost"], ["v", "w", "x"])
        self.assert_missing(["nobody", "lost"], ["lost"], ["w"])
        self.assert_missing(["nobody", "lost"], ["nobody"], ["v", "x"])
        self.assert_missing(["lost"], ["nobody"], [])
        self.assert_missing(["lost"], ["nobody", "lost"], ["w"])
        self.assert_missing(["lost"], ["lost"], ["nobody", "v", "w", "x"])

    def test_a_maker_is_not_read(self):
        text = "data d = A | B\nview v = A\n"
        self.assert_change(text, "data d = A\nview v = A\n", ["v"])


class CellsChangeTest(ChangeCase):
    TEXT = "cell a : num = 1\ncell b : num = 2\nview v = a\nview w = b\nview u = v + w\n"

    def hold(self, **told):
        found = turned(texts.program(self.TEXT), {})
        return {**found, **{name: (found[name][0], outcome) for name, outcome in told.items()}}

    def test_the_same_outcomes(self):
        self.assert_change(self.TEXT, self.TEXT, ["u", "v", "w"], self.hold(a=value(1)))

    def test_another_outcome(self):
        self.assert_change(self.TEXT, self.TEXT, ["w"], self.hold(a=value(2)))
        self.assert_change(self.TEXT, self.TEXT, ["v"], self.hold(b=DIVISION))
        self.assert_change(self.TEXT, self.TEXT, [], self.hold(a=value(2), b=value(1)))

    def test_only_what_was_asked_for_is_kept(self):
        self.assert_change(self.TEXT, self.TEXT, ["w"], self.hold(a=value(2)), ask=["w"])
        self.assert_change(self.TEXT, self.TEXT, [], self.hold(a=value(2)), ask=["v"])

    def test_a_boolean_in_the_place_of_an_integer(self):
        for first, second in ((1, True), (0, False)):
            held = {"a": (((0, "num"), ()), value(first)), "b": (((0, "num"), ()), value(5))}
            self.assert_change(self.TEXT, self.TEXT, ["w"], self.hold(a=value(second), b=value(5)), held)
            held["a"] = (((0, "num"), ()), value(listed(3, made("A", first))))
            self.assert_change(self.TEXT, self.TEXT, ["w"],
                               self.hold(a=value(listed(3, made("A", second))), b=value(5)), held)
            self.assert_change(self.TEXT, self.TEXT, ["u", "v", "w"],
                               self.hold(a=value(listed(3, made("A", first))), b=value(5)), held)

    def test_faults(self):
        held = {"a": (((0, "num"), ()), DIVISION), "b": (((0, "num"), ()), value(5))}
        self.assert_change(self.TEXT, self.TEXT, ["v", "w", "u"], self.hold(a=DIVISION, b=value(5)), held)
        self.assert_change(self.TEXT, self.TEXT, ["w"], self.hold(a=fault("deep"), b=value(5)), held)
        self.assert_change(self.TEXT, self.TEXT, ["w"], self.hold(a=value(1), b=value(5)), held)

    def test_a_cell_that_comes_or_goes(self):
        self.assert_change(self.TEXT, self.TEXT.replace("cell a : num = 1\n", ""), ["w"])
        self.assert_change(self.TEXT.replace("cell a : num = 1\n", ""), self.TEXT, ["w"])
        self.assert_change(self.TEXT, self.TEXT + "cell a : num = 1\n", ["w"])

    def test_another_definition_with_the_same_outcome(self):
        self.assert_change(self.TEXT, self.TEXT.replace("a : num = 1", "a : num = 3"), ["w"])

    def test_what_is_held_by_names_that_are_no_cells(self):
        text = self.TEXT + "view f = 1\n"
        held = {**self.hold(), "f": (((0, "num"), ()), value(1)), "x": (((0, "num"), ()), value(1))}
        after = {**self.hold(), "f": (((0, "num"), ()), value(2))}
        self.assert_change(text, text, ["f", "u", "v", "w"], after, held)

    def test_another_shape_with_the_same_outcome(self):
        text = "data d = A | B\ncell c : d = A\nview v = c\n"
        self.assert_change(text, "data d = A | C\ncell c : d = A\nview v = c\n", ["v"])


class RandomChangesTest(unittest.TestCase):
    ROWS = ["cell a : num = 1\n", "cell a : num = 2\n", "cell a : text = 'a'\n", "cell b : num = 1 / 0\n", "cell b : num = 3\n",
            "fun f(x) = x + a\n", "fun f(x) = x\n", "fun g(x) = if x < 2 then f(x) else b\n", "view v = g(a)\n",
            "view v = a = b\n", "view w = v\n", "view w = [v, f(3)]\n", "view u = case [w] of [] -> w; h :: t -> h end\n",
            "view t = f\n", "view nobody = b + a\n", "view s = u + t\n", "act f(x) = then x\n", "view r = s + v + w\n"]
    OUTCOMES = [value(1), value(0), value(True), value(False), DIVISION, fault("deep"), value("a"), value(3)]

    def is_same(self, name, before, held_before, after, held_after):
        """Point [45] word by word."""
        one, other = before.find(name), after.find(name)
        if one != other:
            return False
        if other is None or other[0] != "cell":
            return True
        return repr(held_before[name][1]) == repr(held_after[name][1])

    def test_against_the_words_of_the_document(self):
        chance = random.Random(45)
        counts = {"stay": 0, "go": 0}
        for _ in range(150):
            views, expected, evaluated = Views(), {}, 0
            program = texts.unjudged("".join(chance.sample(self.ROWS, 12)))
            held = turned(program, {})
            for _ in range(12):
                names = [one[1] for one in program.force if one[0] == "view"]
                for name in chance.sample(names, min(len(names), 2)):
                    meaning = Meaning(program, outcomes(program, held))
                    outcome, _, reads = meaning.look(name)
                    self.assertEqual(repr(views.ask(program, held, name)), repr((outcome, reads)))
                    for read in reads:
                        if read in names and read not in expected:
                            expected[read] = meaning.look(read)[2]
                            evaluated += 1
                    self.assertEqual((views.evaluated, views.kept()), (evaluated, sorted(expected)))
                after, held_after = self.changed(chance, program, held)
                still = {name: reads for name, reads in expected.items()
                         if all(self.is_same(read, program, held, after, held_after) for read in reads)}
                counts["stay"] += len(still)
                counts["go"] += len(expected) - len(still)
                views.change(program, held, after, held_after)
                program, held, expected = after, held_after, still
                self.assertEqual(views.kept(), sorted(expected))
        self.assertGreater(min(counts.values()), 100, counts)

    def changed(self, chance, program, held):
        if chance.random() < 0.4:
            rows = [row for row in self.ROWS if texts.definitions(row)[0] in program.definitions]
            rows = chance.sample(rows, len(rows) - 1) + chance.sample(self.ROWS, chance.randrange(3))
            program = texts.unjudged("".join(rows))
        held = turned(program, held)
        for name in program.cells:
            if chance.random() < 0.3:
                held[name] = (held[name][0], chance.choice(self.OUTCOMES))
        return program, held


if __name__ == "__main__":
    unittest.main()
