import copy
import random
import unittest

import texts
from plain_meaning import PlainRun
from quillrun.acts import make_act
from quillrun.cells import outcomes, turned
from test_runs import an_expression
from texts import DEEP, DIVISION, LARGE, LONG, fault, listed, made, value

PROGRAM = texts.program("""data color = Red | Dye(num)
cell a : num = 1
cell b : num = 2
cell c : text = 'c'
cell d : color = Red
cell bad : num = 1 / 0
view v = a + b
view w = v * v
fun inc(x) = x + 1
fun down(k) = if k < 1 then 0 else down(k - 1)
fun many(k) = if k < 1 then 0 else many(k - 1) + many(k - 1)
fun off(x) = 1 / x
act none() = then a
act none_of(x, y) = then x :: y
act up() = a := a + 1 then a
act swap() = a := b, b := a then [a, b]
act three(x) = a := x, b := inc(a), c := 'x' ++ c then c
act hiding(a, v) = a := a + v, b := b then a
act reading() = a := w, b := v then w
act first(x) = a := off(x), b := inc(a), c := c then v
act middle(x) = a := inc(b), b := off(x), c := c then v
act last(x) = a := inc(b), b := 5, c := c then v + off(x)
act bad_cell() = a := 3, b := bad then c
act dye(n) = d := Dye(n) then d
act sums() = a := many(5), b := many(5) then many(5)
act deep(k) = a := down(k), b := down(k) then down(k)
act too_long() = a := many(6) then 1
act big() = a := 9 then [many(5) + 1267650600228230 * 1000000000000000]
act bent() = a := 'a' then 1
act same(x) = a := x then x
""")


def held(**changed):
    found = turned(PROGRAM, {})
    for name, told in changed.items():
        found[name] = (found[name][0], value(told))
    return found


class ActCase(unittest.TestCase):
    def assert_act(self, name, values, outcome, steps, reads, settings=(), **changed):
        given = held(**changed)
        before = copy.deepcopy(given)
        found = make_act(PROGRAM, given, name, values)
        self.assertEqual(found, (outcome, steps, reads, list(settings)))
        self.assertEqual(given, before)
        self.assertIs(type(found[2]), list)
        self.assertIs(type(found[3]), list)


class SettingsTest(ActCase):
    def test_without_settings(self):
        self.assert_act("none", [], value(1), 1, ["none", "a"])
        self.assert_act("none_of", [1, listed(2)], value(listed(1, 2)), 3, ["none_of"])

    def test_with_one_setting(self):
        self.assert_act("up", [], value(1), 4, ["up", "a"], [("a", 2)])
        self.assert_act("up", [], value(41), 4, ["up", "a"], [("a", 42)], a=41)
        self.assert_act("dye", [7], value(made("Red")), 3, ["dye", "d"], [("d", made("Dye", 7))])

    def test_with_several_settings_in_their_order(self):
        self.assert_act("three", [5], value("c"), 10, ["three", "a", "inc", "c"], [("a", 5), ("b", 2), ("c", "xc")])

    def test_all_are_run_with_what_the_cells_hold_before(self):
        self.assert_act("swap", [], value(listed(1, 2)), 5, ["swap", "b", "a"], [("a", 2), ("b", 1)])
        self.assert_act("reading", [], value(9), 3, ["reading", "w", "v", "a", "b"], [("a", 9), ("b", 3)])

    def test_parameters_hide_cells_and_views(self):
        self.assert_act("hiding", [10, 20], value(10), 5, ["hiding", "b"], [("a", 30), ("b", 2)])

    def test_a_cell_may_be_set_to_what_it_holds(self):
        self.assert_act("same", [1], value(1), 2, ["same"], [("a", 1)])


class FaultsTest(ActCase):
    def test_in_the_first_setting(self):
        self.assert_act("first", [0], DIVISION, 5, ["first", "off"])
        self.assert_act("first", [1], value(3), 12, ["first", "off", "a", "inc", "c", "v", "b"],
                        [("a", 1), ("b", 2), ("c", "c")])

    def test_in_a_middle_setting(self):
        self.assert_act("middle", [0], DIVISION, 10, ["middle", "b", "inc", "off"])

    def test_in_the_last_expression(self):
        self.assert_act("last", [0], DIVISION, 14, ["last", "b", "inc", "c", "v", "a", "off"])
        self.assert_act("last", [1], value(4), 14, ["last", "b", "inc", "c", "v", "a", "off"],
                        [("a", 3), ("b", 5), ("c", "c")])

    def test_of_a_cell_that_is_read(self):
        self.assert_act("bad_cell", [], DIVISION, 2, ["bad_cell", "bad"])

    def test_too_large_a_result(self):
        found = make_act(PROGRAM, held(), "big", [])
        self.assertEqual((found[0], found[3]), (LARGE, []))


class RunsOfTheirOwnTest(ActCase):
    def test_calls_lie_at_depth_1(self):
        # down(k) makes k + 1 calls, one in the other: 8 steps for each but the last one, which makes 5.
        self.assert_act("deep", [11], value(0), 3 * (2 + 11 * 8 + 5), ["deep", "down"], [("a", 0), ("b", 0)])
        self.assert_act("deep", [12], DEEP, 2 + 12 * 8, ["deep", "down"])

    def test_calls_are_counted_anew(self):
        # many(5) makes 63 calls, many(6) would make 127.
        outcome, _, reads, settings = make_act(PROGRAM, held(), "sums", [])
        self.assertEqual((outcome, reads, settings), (value(0), ["sums", "many"], [("a", 0), ("b", 0)]))
        outcome, _, reads, settings = make_act(PROGRAM, held(), "too_long", [])
        self.assertEqual((outcome, reads, settings), (LONG, ["too_long", "many"], []))


class NoActTest(ActCase):
    def test_what_is_no_act_in_force(self):
        for name in ("a", "v", "inc", "color", "Red", "bent", "stranger"):
            self.assert_act(name, [], fault("missing", name), 0, [name])
            self.assert_act(name, [1, 2], fault("missing", name), 0, [name])


class RandomActsTest(unittest.TestCase):
    BASE = "cell n : num = 1\ncell l : list num = []\ncell bad : num = 1 / 0\ndata d = A | B(num, d) | C(list num)\n"

    def act(self, chance):
        cells = chance.sample(("n", "l", "bad"), chance.randrange(4))
        settings = tuple((cell, an_expression(chance, chance.randrange(1, 4))) for cell in cells)
        return ("act", "do", ("x", "n"), settings, an_expression(chance, chance.randrange(1, 4)))

    def plain(self, program, told, act, values):
        """Point [43] word by word."""
        steps, reads, results = 0, ["do"], []
        for e in (*[e for _, e in act[3]], act[4]):
            run = PlainRun(program, told)
            outcome = run.outcome(e, act[2], values)
            steps += run.steps
            reads += [name for name in run.reads if name not in reads]
            if outcome[0] == "fault":
                return outcome, steps, reads, []
            results.append(outcome[1])
        return outcome, steps, reads, [(cell, result) for (cell, _), result in zip(act[3], results)]

    def test_against_the_words_of_the_document(self):
        chance = random.Random(43)
        met = {}
        for _ in range(600):
            act = self.act(chance)
            rows = [("fun", "f", ("x",), an_expression(chance, 3)), ("view", "v", an_expression(chance, 3)), act]

            def judge(found, _):
                return {one[1]: ((), (0, "num")) for one in found if one[0] in ("fun", "view", "act")}
            program = texts.Program(texts.definitions(self.BASE) + rows, judge)
            if program.find("do") is None:
                continue
            given = turned(program, {})
            values = [chance.choice((0, 3, "a", True)), chance.choice((1, listed(1)))]
            expected = self.plain(program, outcomes(program, given), act, values)
            self.assertEqual(repr(make_act(program, given, "do", values)), repr(expected))
            met[len(expected[3]) if expected[0][0] == "value" else "fault"] = True
        self.assertEqual(len(met), 5)


if __name__ == "__main__":
    unittest.main()
