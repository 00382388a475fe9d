import unittest

import texts
from quillrun.machine import call_code, run_code
from quillrun.values import is_large
from texts import DEEP, DIVISION, LARGE, LONG, STUCK, fault, listed, made, value

PROGRAM = texts.program("""data tree = Leaf | Node(tree, num)
cell n : num = 5
cell bad : num = 1 / 0
view v = n + off(1)
view w = v + v
view broken = bad + n
fun inc(x) = x + 1
fun less(x, y) = x - y
fun off(x) = 1 / x
fun deep(k) = if k < 1 then 0 else 1 + deep(k - 1)
fun outer(x) = inc(inc(x)) + n
act up() = then 1
""")
HELD = {"n": value(7), "bad": DIVISION}
NOT_BOOLEANS = (0, 1, "a", "", listed(), listed(True), made("Leaf"))
MOST = 2 ** 100 - 1


class MachineCase(unittest.TestCase):
    def assert_run(self, code, outcome, steps=None, reads=(), local=()):
        code = tuple(code)
        found = run_code(PROGRAM, HELD, code, local)
        self.assertEqual((found[0], found[2]), (outcome, list(reads)), code)
        if outcome[0] == "value":
            self.assertIs(type(found[0][1]), type(outcome[1]), code)
        # Without jumps and calls each instruction is a step, and so is the end.
        self.assertEqual(found[1], len(code) + 1 if steps is None else steps, code)

    def assert_stack(self, code, *values, **more):
        """The values are what is left on the stack when the run ends."""
        self.assert_run(tuple(code) + (("list", len(values)),), value(listed(*values)), **more)

    def assert_local(self, code, *values, local=()):
        """The values are the local values that are left, the nearest one last."""
        rows = tuple(("local", nearer) for nearer in range(len(values)))
        self.assert_run(tuple(code) + rows + (("list", len(values)),), value(listed(*values[::-1])), local=local)


def pushed(*values):
    return tuple(("push", value) for value in values)


class InstructionsTest(MachineCase):
    def test_push(self):
        for one in (1, -5, "a", True, False, listed(1), made("Node", 1)):
            self.assert_run(pushed(one), value(one))
        self.assert_stack(pushed(1, 2, 3), 1, 2, 3)
        self.assert_run(pushed(1, 2, 3), value(3))

    def test_local(self):
        self.assert_run([("local", 0)], value("c"), local=("a", "b", "c"))
        self.assert_run([("local", 1)], value("b"), local=("a", "b", "c"))
        self.assert_run([("local", 2)], value("a"), local=("a", "b", "c"))
        self.assert_local([], "a", "b", "c", local=["a", "b", "c"])

    def test_look(self):
        self.assert_run([("look", "n")], value(7), reads=["n"])
        self.assert_run([("look", "v")], value(8), reads=["v", "n", "off"])
        self.assert_run([("look", "w")], value(16), reads=["w", "v", "n", "off"])
        self.assert_stack([("look", "n"), ("look", "v"), ("look", "n")], 7, 8, 7, reads=["n", "v", "off"])

    def test_look_at_faults(self):
        self.assert_run([("look", "bad"), ("look", "n")], DIVISION, 1, ["bad"])
        self.assert_run([("look", "n"), ("look", "broken"), ("push", 1)], DIVISION, 2, ["n", "broken", "bad"])
        for name in ("inc", "up", "tree", "stranger"):
            self.assert_run([("look", name), ("push", 1)], fault("missing", name), 1, [name])

    def test_op(self):
        for operator, expected in (("+", 5), ("-", -19), ("*", -84), ("/", 0), ("mod", -7), ("<", True), ("=", False)):
            self.assert_run(pushed(-7, 12) + (("op", operator),), value(expected))
        self.assert_run(pushed(-7, 2) + (("op", "/"),), value(-3))
        self.assert_run(pushed(-7, 2) + (("op", "mod"),), value(-1))
        self.assert_run(pushed("a", "b") + (("op", "++"),), value("ab"))
        self.assert_run(pushed(True, 1) + (("op", "="),), value(False))
        self.assert_run(pushed(listed(1), listed(1)) + (("op", "="),), value(True))
        self.assert_stack(pushed(1, 2, 3) + (("op", "+"),), 1, 5)

    def test_faults_of_op(self):
        for operator in ("/", "mod"):
            self.assert_run(pushed(1, 0) + (("op", operator), ("push", 1)), DIVISION, 3)
        for operator in ("+", "-", "*", "/", "mod", "<", "++"):
            for first, second in ((1, "a"), ("a", 1), (True, 1), (1, True), (listed(), 1), (made("Leaf"), "a")):
                self.assert_run(pushed(first, second) + (("op", operator), ("push", 1)), STUCK, 3)
        self.assert_run(pushed("a", 0) + (("op", "/"),), STUCK, 3)
        self.assert_run(pushed(MOST, 1) + (("op", "+"),), LARGE, 3)
        self.assert_run(pushed(MOST, 0) + (("op", "+"),), value(MOST))
        self.assert_run(pushed(-MOST, 1) + (("op", "-"),), LARGE, 3)
        self.assert_run(pushed(2 ** 50, 2 ** 50) + (("op", "*"),), LARGE, 3)
        self.assert_run(pushed("a" * 999, "b") + (("op", "++"),), LARGE, 3)
        self.assert_run(pushed("a" * 998, "b") + (("op", "++"),), value("a" * 998 + "b"))

    def test_not(self):
        self.assert_run(pushed(True) + (("not",),), value(False))
        self.assert_run(pushed(False) + (("not",),), value(True))
        self.assert_stack(pushed(1, True) + (("not",),), 1, False)
        for other in NOT_BOOLEANS:
            self.assert_run(pushed(other) + (("not",), ("push", 1)), STUCK, 2)

    def test_skip(self):
        self.assert_run((*pushed(1), ("skip", 0), *pushed(2)), value(2), 4)
        self.assert_run((*pushed(1), ("skip", 1), *pushed(2)), value(1), 3)
        self.assert_run((*pushed(1), ("skip", 2), *pushed(2, 3), *pushed(4)), value(4), 4)

    def test_stays(self):
        self.assert_run((*pushed(False), ("stays", False, 1), ("push", 5)), value(False), 3)
        self.assert_run((*pushed(True), ("stays", False, 1), ("push", 5)), value(5), 4)
        self.assert_run((*pushed(True), ("stays", True, 2), ("push", 5), ("push", 6)), value(True), 3)
        self.assert_run((*pushed(False), ("stays", True, 1), ("push", 5)), value(5), 4)
        self.assert_stack((*pushed(9, True), ("stays", False, 1), ("push", 5)), 9, 5)
        self.assert_run((*pushed(9, False), ("stays", False, 0), ("list", 2)), value(listed(9, False)), 5)
        for other in NOT_BOOLEANS:
            for flag in (True, False):
                self.assert_run((*pushed(other), ("stays", flag, 1), ("push", 5), ("push", 6)), STUCK, 2)

    def test_unless(self):
        self.assert_run((*pushed(1, True), ("unless", 1), ("push", 2)), value(2), 5)
        self.assert_run((*pushed(1, False), ("unless", 1), ("push", 2)), value(1), 4)
        self.assert_run((*pushed(1, False), ("unless", 0), ("push", 2)), value(2), 5)
        self.assert_stack((*pushed(1, True), ("unless", 1), ("push", 2)), 1, 2)
        for other in NOT_BOOLEANS:
            self.assert_run((*pushed(other), ("unless", 1), ("push", 2)), STUCK, 2)

    def test_keep_and_leave(self):
        self.assert_local((*pushed(1, 2), ("keep",), ("keep",)), 0, 2, 1, local=(0,))
        self.assert_local((*pushed(1), ("keep",), ("leave", 1)), 8, 9, local=(8, 9))
        self.assert_local([("leave", 2)], 7, local=(7, 8, 9))
        self.assert_local([("leave", 0)], 7, 8, local=(7, 8))
        self.assert_local([("leave", 2)], local=(7, 8))
        self.assert_stack((*pushed(1, 2), ("keep",)), 1)

    def test_list(self):
        self.assert_run([("list", 0)], value(listed()))
        self.assert_run((*pushed(1, 2, 3), ("list", 3)), value(listed(1, 2, 3)))
        self.assert_stack((*pushed(1, 2, 3), ("list", 2)), 1, listed(2, 3))
        self.assert_stack((*pushed(1), ("list", 0)), 1, listed())
        self.assert_run((*pushed("a" * 998), ("list", 1)), value(listed("a" * 998)))
        self.assert_run((*pushed("a" * 999), ("list", 1), ("push", 1)), LARGE, 2)

    def test_pair(self):
        self.assert_run((*pushed(1, listed(2, 3)), ("pair",)), value(listed(1, 2, 3)))
        self.assert_run((*pushed("a", listed()), ("pair",)), value(listed("a")))
        self.assert_stack((*pushed(0, 1, listed()), ("pair",)), 0, listed(1))
        for other in (1, "a", True, made("Leaf"), made("Node", listed())):
            self.assert_run((*pushed(1, other), ("pair",), ("push", 1)), STUCK, 3)
        self.assert_run((*pushed(1, ("list", (1,) * 998)), ("pair",)), value(("list", (1,) * 999)))
        self.assert_run((*pushed(1, ("list", (1,) * 999)), ("pair",)), LARGE, 3)

    def test_open(self):
        self.assert_run((*pushed(0, listed()), ("open", 1), ("push", 1)), value(1), 5)
        self.assert_run((*pushed(0, listed(5)), ("open", 1), ("push", 1)), value(0), 4)
        self.assert_local((*pushed(listed(1, 2, 3)), ("open", 0)), 9, 1, listed(2, 3), local=(9,))
        self.assert_local((*pushed(listed(1)), ("open", 0)), 1, listed())
        self.assert_local((*pushed(listed()), ("open", 0)), 9, local=(9,))
        self.assert_stack((*pushed(0, listed(1)), ("open", 0)), 0)
        for other in (1, "a", "", True, made("Leaf"), made("Node", listed())):
            self.assert_run((*pushed(other), ("open", 1), ("push", 1)), STUCK, 2)

    def test_make(self):
        self.assert_run([("make", "Leaf", 0)], value(made("Leaf")))
        self.assert_run((*pushed(1, "a"), ("make", "Q", 2)), value(made("Q", 1, "a")))
        self.assert_stack((*pushed(1, 2, 3), ("make", "Q", 2)), 1, made("Q", 2, 3))
        self.assert_run((*pushed("a" * 998), ("make", "Q", 1)), value(made("Q", "a" * 998)))
        self.assert_run((*pushed("a" * 999), ("make", "Q", 1), ("push", 1)), LARGE, 2)

    def test_pick(self):
        choices = ("pick", (("A", 0, 0), ("B", 2, 1), ("C", 1, 2)))
        rows = pushed(10, 11, 12)
        self.assert_run((*pushed(made("A")), choices, *rows, ("list", 3)), value(listed(10, 11, 12)))
        self.assert_run((*pushed(made("B", 1, 2)), choices, *rows, ("list", 2)), value(listed(11, 12)), 6)
        self.assert_run((*pushed(made("C", 1)), choices, *rows, ("list", 1)), value(listed(12)), 5)
        self.assert_local((*pushed(made("B", 1, 2)), ("pick", (("B", 2, 0),))), 9, 1, 2, local=(9,))
        self.assert_stack((*pushed(0, made("A")), choices), 0)

    def test_pick_takes_the_first_choice_of_the_maker(self):
        choices = ("pick", (("A", 1, 1), ("A", 1, 0)))
        self.assert_run((*pushed(5, made("A", 1)), choices, ("push", 6)), value(5), 4)
        self.assert_run((*pushed(made("A", 1)), ("pick", (("A", 0, 0), ("A", 1, 0))), ("push", 6)), STUCK, 2)

    def test_pick_without_a_choice(self):
        choices = ("pick", (("A", 0, 0), ("B", 2, 1)))
        for other in (made("C"), made("A", 1), made("B"), made("B", 1), made("B", 1, 2, 3), 1, "A", True, listed(),
                      listed(made("A"))):
            self.assert_run((*pushed(other), choices, ("push", 1), ("push", 2)), STUCK, 2)

    def test_the_code_and_the_values_stay_as_they_are(self):
        code, local = [("keep",), ("local", 0)], [1, 2]
        run_code(PROGRAM, HELD, [("push", 5), *code], local)
        self.assertEqual((code, local, HELD), ([("keep",), ("local", 0)], [1, 2], {"n": value(7), "bad": DIVISION}))

    def test_large_literals_and_local_values_are_no_fault(self):
        long_text = "a" * 2000
        self.assertTrue(is_large(long_text))
        self.assert_run(pushed(long_text), value(long_text))
        self.assert_run([("local", 0), ("keep",), ("local", 0)], value(long_text), local=(long_text,))


class CallTest(MachineCase):
    def test_steps_of_a_call(self):
        # call, local, push, op, the end of the function, the end of the run
        self.assert_run((*pushed(4), ("call", "inc", 1)), value(5), 7, ["inc"])
        self.assert_run((*pushed(4, 9), ("call", "less", 2)), value(-5), 8, ["less"])
        self.assert_run((*pushed(4), ("call", "inc", 1), ("call", "inc", 1)), value(6), 12, ["inc"])

    def test_the_caller_goes_on_with_its_own_values(self):
        self.assert_stack((*pushed(0, 4), ("call", "inc", 1), ("local", 0)), 0, 5, 9, local=(9,),
                          steps=4 + 4 + 2, reads=["inc"])
        self.assert_run((*pushed(1), ("call", "outer", 1)), value(10), 17, ["outer", "inc", "n"])

    def test_the_local_values_of_the_caller_are_not_seen(self):
        self.assert_run((("local", 0), ("call", "inc", 1), ("local", 0), ("op", "+")), value(7), 9, ["inc"], local=(1, 3))

    def test_faults(self):
        for name in ("n", "v", "up", "tree", "stranger"):
            self.assert_run((*pushed(1), ("call", name, 1), ("push", 1)), fault("missing", name), 2, [name])
        for count in (0, 1, 3):
            self.assert_run((*pushed(1, 2, 3), ("call", "less", count)), STUCK, 4, ["less"])
        self.assert_run((*pushed(0), ("call", "off", 1), ("look", "n")), DIVISION, 5, ["off"])
        self.assert_run((*pushed("a"), ("call", "inc", 1), ("look", "n")), STUCK, 5, ["inc"])

    def test_twelve_deep(self):
        self.assertEqual(run_code(PROGRAM, HELD, (*pushed(11), ("call", "deep", 1)), ())[0], value(11))
        self.assertEqual(run_code(PROGRAM, HELD, (*pushed(12), ("call", "deep", 1)), ())[::2], (DEEP, ["deep"]))

    def test_a_hundred_calls(self):
        calls = (*pushed(0), *[("call", "inc", 1)] * 100)
        self.assert_run(calls, value(100), 1 + 5 * 100 + 1, ["inc"])
        self.assert_run((*calls, ("call", "inc", 1), ("look", "n")), LONG, 1 + 5 * 100 + 1, ["inc"])
        self.assert_run((*calls, ("call", "less", 1), ("look", "n")), LONG, 1 + 5 * 100 + 1, ["inc", "less"])
        self.assert_run((*calls, ("call", "gone", 1), ("look", "n")), fault("missing", "gone"), 502, ["inc", "gone"])

    def test_the_runs_of_views_are_separate(self):
        calls = (*pushed(0), *[("call", "inc", 1)] * 100)
        self.assert_run((*calls, ("look", "v"), ("op", "+")), value(108), 504, ["inc", "v", "n", "off"])
        views = tuple([("look", "v")] * 120)
        self.assert_run((*views, *pushed(0), *[("call", "inc", 1)] * 100), value(100), 120 + 502, ["v", "n", "off", "inc"])


class CallCodeTest(MachineCase):
    def assert_call(self, name, values, outcome, steps, reads):
        self.assertEqual(call_code(PROGRAM, HELD, name, values), (outcome, steps, list(reads)))

    def test_it_runs_the_single_instruction(self):
        self.assert_call("inc", [4], value(5), 6, ["inc"])
        self.assert_call("less", [4, 9], value(-5), 6, ["less"])
        self.assert_call("outer", [1], value(10), 16, ["outer", "inc", "n"])
        self.assert_call("deep", [0], value(0), 9, ["deep"])

    def test_faults(self):
        for name in ("n", "v", "up", "stranger"):
            self.assert_call(name, [], fault("missing", name), 1, [name])
            self.assert_call(name, [1, 2], fault("missing", name), 1, [name])
        self.assert_call("inc", [], STUCK, 1, ["inc"])
        self.assert_call("inc", [1, 2], STUCK, 1, ["inc"])
        self.assert_call("off", [0], DIVISION, 4, ["off"])
        self.assert_call("inc", [MOST], LARGE, 4, ["inc"])

    def test_twelve_deep(self):
        # Each call but the last one makes 10 instructions and its end, the last one 6 and its end.
        self.assert_call("deep", [11], value(11), 1 + 11 * 11 + 7 + 1, ["deep"])
        self.assertEqual(call_code(PROGRAM, HELD, "deep", [12])[::2], (DEEP, ["deep"]))

    def test_tuples_of_values(self):
        self.assertEqual(call_code(PROGRAM, HELD, "less", (4, 9)), call_code(PROGRAM, HELD, "less", [4, 9]))


if __name__ == "__main__":
    unittest.main()
