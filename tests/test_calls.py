import unittest

import texts
from quillrun.machine import call_code, run_code
from quillrun.meaning import Meaning
from texts import DEEP, DIVISION, LONG, STUCK, expression, fault, listed, value

# deep(n) makes n + 1 calls, one within the other; wide(n) makes 2 + 4n calls that lie at most 3 deep.
PROGRAM = texts.program("""cell n : num = 1
cell bad : num = 1 / 0
fun deep(k) = if k < 1 then 0 else 1 + deep(k - 1)
fun one() = 1
fun two() = one() + one()
fun ten() = [one(), one(), one(), one(), one(), one(), one(), one(), one(), one()]
fun tens() = [ten(), ten(), ten(), ten(), ten(), ten(), ten(), ten(), ten()]
fun even(k) = if k = 0 then true else odd(k - 1)
fun odd(k) = if k = 0 then false else even(k - 1)
fun first(x, y) = x - y
fun loop() = loop()
fun pair(x) = [x, n]
fun far() = if deep(10) = 10 then stop(1) else 0
fun stop(x) = x / 0
view v = deep(11)
view over = deep(12)
view many = [tens(), [[one()], [one()]]]
view few = [tens(), []]
view hundred = [tens(), [ten()]]
view calm = v + v
act up() = then 1
""")
HELD = {"n": value(5), "bad": DIVISION}


class CallCase(unittest.TestCase):
    """Each call is made by the meaning and by the machine, which must agree."""

    def assert_call(self, name, values, outcome, steps, reads, program=PROGRAM):
        found = Meaning(program, HELD).call(name, values)
        self.assertEqual(found, (outcome, steps, list(reads)))
        done = call_code(program, HELD, name, values)
        self.assertEqual((done[0], done[2]), (outcome, list(reads)))
        self.assertLessEqual(done[1], 3 * (steps + 1) + 2)

    def outcome(self, text, program=PROGRAM, names=(), values=()):
        return Meaning(program, HELD).run(expression(text), names, values)[0]

    def assert_run(self, text, outcome, steps, reads, program=PROGRAM):
        found = Meaning(program, HELD).run(expression(text), (), ())
        self.assertEqual(found, (outcome, steps, list(reads)))


class CallsTest(CallCase):
    def test_the_steps_are_those_of_the_expression(self):
        self.assert_call("one", [], value(1), 1, ["one"])
        self.assert_call("two", [], value(2), 5, ["two", "one"])
        self.assert_call("first", [7, 2], value(5), 3, ["first"])
        self.assert_call("pair", ["a"], value(listed("a", 5)), 3, ["pair", "n"])

    def test_a_call_in_an_expression_is_a_step_itself(self):
        self.assert_run("one()", value(1), 2, ["one"])
        self.assert_run("first(n, 2)", value(3), 6, ["n", "first"])
        self.assert_run("first(bad, n)", DIVISION, 2, ["bad"])
        self.assert_run("stop(n)", DIVISION, 5, ["n", "stop"])

    def test_the_arguments_are_the_only_local_names(self):
        self.assert_run("let n = 2 in pair(n)", value(listed(2, 5)), 7, ["pair", "n"])
        self.assertEqual(self.outcome("let x = 1 in first(x + 1, x)"), value(1))
        self.assertEqual(self.outcome("let y = 1 in pair(2)"), value(listed(2, 5)))
        self.assertEqual(self.outcome("let y = 9 in first(2, 1) + y"), value(10))

    def test_a_call_means_the_function_also_where_the_name_is_local(self):
        self.assert_run("let one = 5 in one() + one", value(6), 6, ["one"])
        self.assert_run("let stranger = 5 in stranger()", fault("missing", "stranger"), 3, ["stranger"])

    def test_functions_that_call_themselves_and_one_another(self):
        self.assert_call("deep", [3], value(3), 35, ["deep"])
        self.assert_call("even", [4], value(True), 37, ["even", "odd"])
        self.assert_call("odd", [4], value(False), 37, ["odd", "even"])

    def test_what_is_no_function_in_force(self):
        for name in ("n", "v", "up", "stranger", "x"):
            self.assert_call(name, [1], fault("missing", name), 0, [name])
            self.assert_run(f"{name}(1, n)", fault("missing", name), 3, ["n", name] if name != "n" else ["n"])

    def test_another_number_of_arguments_is_stuck(self):
        for name, values in (("one", [1]), ("first", [1]), ("first", []), ("first", [1, 2, 3]), ("deep", [])):
            self.assert_call(name, values, STUCK, 0, [name])
        self.assert_run("one(n)", STUCK, 2, ["n", "one"])
        self.assert_run("first()", STUCK, 1, ["first"])

    def test_the_values_stay_as_they_are(self):
        values = [7, 2]
        Meaning(PROGRAM, HELD).call("first", values)
        call_code(PROGRAM, HELD, "first", values)
        self.assertEqual(values, [7, 2])


class DeepTest(CallCase):
    def test_twelve_calls_deep_from_outside(self):
        self.assert_call("deep", [11], value(11), 10 * 11 + 5, ["deep"])
        self.assertEqual(Meaning(PROGRAM, HELD).call("deep", [12])[0], DEEP)
        self.assertEqual(call_code(PROGRAM, HELD, "deep", [12])[0], DEEP)

    def test_an_expression_lies_at_depth_0(self):
        self.assertEqual(self.outcome("deep(11)"), value(11))
        self.assertEqual(self.outcome("deep(12)"), DEEP)
        self.assertEqual(self.outcome("deep(11) + deep(11)"), value(22))

    def test_the_name_is_read_first(self):
        program = texts.program("fun a() = b()\n" + "".join(
            f"fun {name}() = {other}()\n" for name, other in zip("bcdefghijkl", "cdefghijklm")) + "fun m() = 1\n")
        self.assert_call("b", [], value(1), 12, list("bcdefghijklm"), program)
        self.assert_call("a", [], DEEP, 12, list("abcdefghijklm"), program)

    def test_the_arguments_of_a_call_lie_outside_of_it(self):
        self.assertEqual(self.outcome("deep(deep(deep(11)))"), value(11))

    def test_the_depth_counts_again_after_a_call(self):
        self.assertEqual(self.outcome("[deep(11), deep(11), deep(11)]"), value(listed(11, 11, 11)))
        self.assertEqual(self.outcome("[one(), one(), deep(12)]"), DEEP)


class LongTest(CallCase):
    def test_a_hundred_calls(self):
        # tens() makes 100 calls: itself, 9 of ten() and 90 of one().
        self.assertEqual(self.outcome("tens() = []"), value(False))
        self.assertEqual(self.outcome("[tens(), [[one()]]]"), LONG)
        self.assertEqual(self.outcome("[[one()], ten()] = [] and tens() = []"), value(False))
        self.assertEqual(self.outcome("[[one()]] = tens()"), LONG)

    def test_the_call_from_outside_counts(self):
        program = texts.program("""fun one() = 1
fun ten() = [one(), one(), one(), one(), one(), one(), one(), one(), one(), one()]
fun most() = [ten(), ten(), ten(), ten(), ten(), ten(), ten(), ten(), ten()]
fun more() = [ten(), ten(), ten(), ten(), ten(), ten(), ten(), ten(), ten(), [one()]]
""")
        ones = listed(*[1] * 10)
        self.assert_call("most", [], value(listed(*[ones] * 9)), 1 + 9 * 22, ["most", "ten", "one"], program)
        self.assert_call("more", [], LONG, 1 + 9 * 22 + 2, ["more", "ten", "one"], program)

    def test_steps_and_reads_of_a_call_that_is_not_made(self):
        self.assert_run("[[one()], [two()]] = [] or [tens(), [[first(1, n)]]] = []", LONG, 209,
                        ["one", "two", "tens", "ten"])

    def test_calls_that_are_done_count(self):
        rows = ", ".join(["two()"] * 33)
        self.assertEqual(self.outcome(f"[{rows}]"), value(listed(*[2] * 33)))
        self.assertEqual(self.outcome(f"[{rows}, one()]"), value(listed(*[2] * 33, 1)))
        self.assertEqual(self.outcome(f"[{rows}, one(), one()]"), LONG)

    def test_a_run_without_an_end(self):
        self.assertEqual(self.outcome("loop()"), DEEP)
        self.assert_call("loop", [], DEEP, 12, ["loop"])


class OrderOfFaultsTest(CallCase):
    # Everything counts as typed here; gone is an act, which is in force but no function.
    GONE = "act gone() = then 1\n"
    CHAIN = "".join(f"fun {name}(k) = {other}(k)\n" for name, other in zip("abcdefghijk", "bcdefghijkl"))
    MANY = """fun one() = 1
fun nine() = [one(), one(), one(), one(), one(), one(), one(), one(), one()]
fun ninety() = [nine(), nine(), nine(), nine(), nine(), nine(), nine(), nine(), nine(), one(), one(), one()]
"""

    def at_depth_13(self, last):
        return texts.unjudged(self.GONE + self.CHAIN + f"fun l(k) = {last}\nfun one() = 1\n")

    def after_100_calls(self, last):
        # hundred() itself, ninety() and its 93 calls, and five more.
        return texts.unjudged(self.GONE + self.MANY + f"fun hundred() = [ninety(), one(), one(), one(), one(), one(), {last}]\n")

    def test_deep_before_missing_and_stuck(self):
        for last in ("one()", "gone()", "one(1)"):
            name = last.split("(")[0]
            program = self.at_depth_13(last)
            found = Meaning(program, {}).call("a", [1])
            self.assertEqual((found[0], found[2]), (DEEP, list("abcdefghijkl") + [name]), last)
            self.assertEqual(call_code(program, {}, "a", [1])[::2], found[::2])

    def test_at_depth_12_the_others_are_looked_at(self):
        for last, expected in (("one()", value(1)), ("gone()", fault("missing", "gone")), ("one(1)", STUCK)):
            program = self.at_depth_13(last)
            found = Meaning(program, {}).call("b", [1])
            self.assertEqual((found[0], found[2]), (expected, list("bcdefghijkl") + [last.split("(")[0]]), last)
            self.assertEqual(call_code(program, {}, "b", [1])[::2], found[::2])

    def test_missing_before_long_and_stuck(self):
        for last, expected in (("one()", LONG), ("gone()", fault("missing", "gone")), ("one(1)", LONG),
                               ("gone(1)", fault("missing", "gone"))):
            program = self.after_100_calls(last)
            found = Meaning(program, {}).call("hundred", [])
            self.assertEqual(found[0], expected, last)
            self.assertEqual(call_code(program, {}, "hundred", [])[::2], found[::2])

    def test_stuck_comes_last(self):
        program = texts.unjudged(self.MANY + "fun most() = [ninety(), one(), one(), one(), one(), one(1)]\n")
        self.assertEqual(Meaning(program, {}).call("most", [])[0], STUCK)
        self.assertEqual(call_code(program, {}, "most", [])[0], STUCK)

    def test_the_name_is_read_before_every_fault(self):
        for program, name, last in ((self.at_depth_13("gone()"), "a", "gone"),
                                    (self.after_100_calls("gone()"), "hundred", "gone")):
            self.assertEqual(Meaning(program, {}).call(name, [1] if name == "a" else [])[2][-1], last)


class ViewsTest(CallCase):
    def test_the_reads_of_a_view_come_behind_its_name(self):
        program = texts.program("""cell c : num = 1
cell d : num = 2
fun f(x) = x + d
view v = c + f(c)
view w = [d, v, c]
""")
        meaning = Meaning(program, {"c": value(3), "d": value(4)})
        self.assertEqual(meaning.look("v"), (value(10), 0, ["v", "c", "f", "d"]))
        self.assertEqual(meaning.look("w"), (value(listed(4, 10, 3)), 0, ["w", "d", "v", "c", "f"]))
        self.assertEqual(meaning.run(expression("[c, w, v]"), (), ()),
                         (value(listed(3, listed(4, 10, 3), 10)), 4, ["c", "w", "d", "v", "f"]))

    def test_the_calls_of_a_view_start_at_depth_1(self):
        self.assertEqual(Meaning(PROGRAM, HELD).look("v")[0], value(11))
        self.assertEqual(Meaning(PROGRAM, HELD).look("over")[0], DEEP)
        self.assertEqual(self.outcome("v"), value(11))
        self.assertEqual(self.outcome("calm"), value(22))

    def test_a_view_that_is_read_by_a_deep_call(self):
        program = texts.program("""fun down(k) = if k = 0 then v else down(k - 1)
fun deep(k) = if k = 0 then 5 else deep(k - 1)
view v = deep(11)
""")
        self.assertEqual(Meaning(program, {}).call("down", [11])[0], value(5))
        self.assertEqual(call_code(program, {}, "down", [11])[0], value(5))

    def test_the_calls_of_a_view_are_counted_by_themselves(self):
        for text in ("few", "[few, few]", "(let x = tens() in few)", "(let x = few in x = [tens(), []])"):
            self.assertNotEqual(self.outcome(text)[0], "fault", text)
        self.assertEqual(Meaning(PROGRAM, HELD).look("hundred")[0], LONG)
        self.assertEqual(Meaning(PROGRAM, HELD).look("many")[0], LONG)

    def test_a_view_makes_no_steps_for_what_reads_it(self):
        self.assert_run("v", value(11), 1, ["v", "deep"])
        self.assert_run("few = few", value(True), 3, ["few", "tens", "ten", "one"])

    def test_a_fault_of_a_view_is_a_fault_of_what_reads_it(self):
        self.assert_run("[over, n]", DEEP, 2, ["over", "deep"])
        self.assert_run("n + many", LONG, 3, ["n", "many", "tens", "ten", "one"])

    def test_views_through_any_number_of_views(self):
        many = 2000
        program = texts.program("cell c : num = 1\nview v0 = c\n" + "".join(
            f"view v{k} = v{k - 1} + v{k - 1} - v{k - 1}\n" for k in range(1, many)))
        names = [f"v{k}" for k in range(many - 1, -1, -1)] + ["c"]
        held = {"c": value(4)}
        self.assertEqual(Meaning(program, held).look(names[0]), (value(4), 0, names))
        self.assertEqual(run_code(program, held, (("look", names[0]),), ()), (value(4), 2, names))
        self.assertEqual(Meaning(program, {"c": DIVISION}).look(names[0]), (DIVISION, 0, names))

    def test_a_match_with_several_arms_of_one_maker_takes_the_first(self):
        program = texts.unjudged("data d = A | B(num)\nview v = case B(1) of A -> 0; B(x) -> x + 1; B(x) -> x end\n"
                                 "view w = case B(1) of B -> 0; B(x) -> x end\n")
        self.assertEqual(Meaning(program, {}).look("v")[0], value(2))
        self.assertEqual(Meaning(program, {}).look("w")[0], STUCK)

    def test_a_view_that_is_not_read_is_not_run(self):
        self.assert_run("if true then n else over", value(5), 3, ["n"])


class ReadOnlyWhatCountsTest(CallCase):
    """Point [35]: what is not read makes no difference."""
    BASE = """cell c : num = 1
cell d : num = 2
fun f(x) = if x < 10 then x + c else g(x)
fun g(x) = x + d
view v = f(1)
"""
    HELD = {"c": value(3), "d": value(4)}

    def answers(self, text, held):
        program = texts.program(text)
        held = {name: held[name] for name in program.cells}
        meaning = Meaning(program, held)
        return (meaning.call("f", [1]), meaning.look("v"), meaning.run(expression("f(c) + v"), (), ()),
                call_code(program, held, "f", [1]), run_code(program, held, (("look", "v"),), ()))

    def test_other_definitions_and_other_values_of_other_cells(self):
        expected = self.answers(self.BASE, self.HELD)
        self.assertEqual(expected[0], (value(4), 7, ["f", "c"]))
        self.assertEqual(self.answers(self.BASE, {**self.HELD, "d": DIVISION}), expected)
        self.assertEqual(self.answers(self.BASE + "fun h(x) = h(c)\nview w = v + d\ncell e : num = 1\n",
                                      {**self.HELD, "e": value(0)}), expected)
        self.assertEqual(self.answers(self.BASE.replace("x + d", "x * d + 1"), self.HELD), expected)
        self.assertEqual(self.answers("data z = Z\n" + self.BASE, self.HELD), expected)

    def test_definitions_that_are_left_out(self):
        rows = "cell c : num = 1\nfun f(x) = if x < 10 then x + c else x\nview v = f(1)\n"
        less = texts.program(rows)
        more = texts.program(rows + "cell d : num = 2\nfun g(x) = x + d\nview w = v + g(1)\n")
        first, second = Meaning(less, {"c": value(3)}), Meaning(more, self.HELD)
        for name in ("c", "v", "f", "gone"):
            self.assertEqual(first.look(name), second.look(name))
            self.assertEqual(first.call(name, [1]), second.call(name, [1]))
            self.assertEqual(call_code(less, {"c": value(3)}, name, [1]), call_code(more, self.HELD, name, [1]))
        for text in ("[f(c), v]", "if true then v else d", "true or w", "gone"):
            self.assertEqual(first.run(expression(text), (), ()), second.run(expression(text), (), ()))
        for name in ("d", "w"):
            self.assertEqual(first.look(name), (fault("missing", name), 0, [name]))
            self.assertEqual(second.look(name)[0][0], "value")

    def test_what_is_read_makes_a_difference(self):
        expected = self.answers(self.BASE, self.HELD)
        self.assertNotEqual(self.answers(self.BASE, {**self.HELD, "c": value(5)}), expected)
        self.assertNotEqual(self.answers(self.BASE.replace("x + c", "x - c"), self.HELD), expected)


if __name__ == "__main__":
    unittest.main()
