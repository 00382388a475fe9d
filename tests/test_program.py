import itertools
import random
import unittest

import making
import texts
from quillrun.parser import parse
from quillrun.program import Program, typed

NUM, TEXT = (0, "num"), (0, "text")


def problems(text):
    """The problems by the names of the definitions."""
    made = texts.program(text)
    return {made.definitions[index][1]: problem for index, problem in made.problems.items()}


class ProgramTest(unittest.TestCase):
    TEXT = """view total = n + sum(l)
act up(x) = n := n + x, l := x :: l then pair(n)
data tree = Leaf | Node(tree, list num)
cell n : num = 1
cell l : list num = []
fun sum(l) = case l of [] -> 0; h :: t -> h + sum(t) end
fun pair(x) = [x, x]
view bad = n + 'a'
"""

    def test_attributes(self):
        made = texts.program(self.TEXT)
        self.assertEqual(made.definitions, texts.definitions(self.TEXT))
        self.assertEqual(texts.in_force(made), ["l", "n", "pair", "sum", "tree", "total", "up"])
        self.assertEqual(made.force, [made.find(name) for name in texts.in_force(made)])
        self.assertEqual(made.problems, {7: ("untyped",)})
        self.assertEqual(made.schemes, {
            "total": ((), NUM), "up": ((NUM,), (1, "num")), "sum": (((1, "num"),), NUM), "pair": (((0, 0),), (1, 0))})
        self.assertEqual(made.cells, {"n": NUM, "l": (1, "num")})
        self.assertEqual(made.data, {"tree": (("Leaf", ()), ("Node", ((0, "tree"), (1, "num"))))})
        self.assertEqual(made.makers, {"Leaf": "tree", "Node": "tree"})

    def test_nothing(self):
        made = Program([])
        self.assertEqual((made.definitions, made.force, made.problems), ([], [], {}))
        self.assertEqual((made.schemes, made.cells, made.data, made.makers), ({}, {}, {}, {}))
        self.assertIsNone(made.find("f"))

    def test_find(self):
        made = texts.program(self.TEXT)
        for name in ("total", "up", "tree", "n", "l", "sum", "pair"):
            self.assertEqual(made.find(name)[1], name)
        self.assertEqual(made.find("tree"), parse("data tree = Leaf | Node(tree, list num)"))
        for name in ("bad", "Leaf", "Node", "h", "stranger", "num", ""):
            self.assertIsNone(made.find(name))

    def test_the_list_is_not_kept(self):
        given = texts.definitions("view v = 1\nview w = v\n")
        made = Program(given)
        given.append(parse("view x = 1"))
        given[0] = parse("view v = 'a'")
        self.assertEqual(made.definitions, texts.definitions("view v = 1\nview w = v\n"))
        self.assertEqual(len(made.force), 2)
        self.assertIsNone(made.find("x"))

    def test_the_list_is_not_changed(self):
        given = texts.definitions(self.TEXT + "data q = Leaf\n")
        before = list(given)
        Program(given)
        self.assertEqual(given, before)

    def test_force_is_listed_component_by_component(self):
        made = texts.program("""fun a() = b() + g()
fun b() = if true then a() else z()
fun z() = 1
fun g() = 2
view y = g()
""")
        self.assertEqual(texts.in_force(made), ["g", "z", "y", "a", "b"])

    def test_the_order_of_the_definitions_makes_no_difference(self):
        text = """fun a() = b()
fun b() = a() + n
cell n : t = 1
data t = T
data u = T2 | T2
view w = ring
view ring = w
fun twice() = 1
"""
        given = texts.definitions(text)
        expected = Program(given)
        told = {given[index]: problem for index, problem in expected.problems.items()}
        chance = random.Random(29)
        for _ in range(20):
            chance.shuffle(given)
            made = Program(given)
            self.assertEqual(made.force, expected.force)
            self.assertEqual({given[index]: problem for index, problem in made.problems.items()}, told)
            self.assertEqual((made.schemes, made.cells, made.data, made.makers),
                             (expected.schemes, expected.cells, expected.data, expected.makers))


class TwiceTest(unittest.TestCase):
    def assert_problems(self, text, expected):
        self.assertEqual(texts.program(text).problems, expected)

    def test_two_definitions_of_one_name(self):
        self.assert_problems("view v = 1\nview v = 1\n", {0: ("twice", "v"), 1: ("twice", "v")})
        self.assert_problems("view v = 1\nfun v() = 1\nview w = 2\n", {0: ("twice", "v"), 1: ("twice", "v")})
        self.assert_problems("cell x : num = 1\nview y = 1\nact x() = then 1\ndata x = A\n",
                             {0: ("twice", "x"), 2: ("twice", "x"), 3: ("twice", "x")})

    def test_a_maker_of_two_definitions(self):
        self.assert_problems("data d = A | B\ndata e = C | B\ndata f = D\n", {0: ("twice", "B"), 1: ("twice", "B")})

    def test_a_maker_twice_in_one_definition(self):
        self.assert_problems("data d = A | B | A\n", {0: ("twice", "A")})
        self.assert_problems("data d = A | B(num) | B(num)\n", {0: ("twice", "B")})

    def test_the_first_such_name_is_told(self):
        self.assert_problems("data d = A | B\ndata e = B | A\n", {0: ("twice", "A"), 1: ("twice", "B")})
        self.assert_problems("data d = A | B | B\nview d = 1\n", {0: ("twice", "d"), 1: ("twice", "d")})
        self.assert_problems("data d = A | B | C | C | B\n", {0: ("twice", "B")})
        self.assert_problems("data d = Z | B | C\ndata e = C | Z\n", {0: ("twice", "Z"), 1: ("twice", "C")})

    def test_it_makes_nothing_for_the_others(self):
        self.assert_problems("data d = A | A | B\nview v = B\n", {0: ("twice", "A"), 1: ("missing", "B")})
        self.assert_problems("fun f() = 1\nfun f() = 2\nview v = f()\n",
                             {0: ("twice", "f"), 1: ("twice", "f"), 2: ("missing", "f")})
        self.assert_problems("data d = A\ndata e = A\ndata g = G(d)\n",
                             {0: ("twice", "A"), 1: ("twice", "A"), 2: ("missing", "d")})
        made = texts.program("data d = A | B\ndata e = C | B\n")
        self.assertEqual((made.force, made.data, made.makers), ([], {}, {}))

    def test_its_names_stay_made_twice(self):
        # The first one is out because of B; its A is made twice all the same.
        self.assert_problems("data d = A | B\ndata e = B\ndata g = A\n",
                             {0: ("twice", "A"), 1: ("twice", "B"), 2: ("twice", "A")})

    def test_it_comes_before_all_other_problems(self):
        self.assert_problems("view v = v\nview v = w\n", {0: ("twice", "v"), 1: ("twice", "v")})

    def test_a_ring_through_it_is_none(self):
        self.assert_problems("view v = f()\nfun f() = v\nfun f() = v\n",
                             {0: ("missing", "f"), 1: ("twice", "f"), 2: ("twice", "f")})

    def test_names_of_makers_and_others_cannot_be_the_same(self):
        self.assert_problems("data a = A\nview b = A\n", {})


class MissingTest(unittest.TestCase):
    def test_a_name_that_nothing_makes(self):
        self.assertEqual(problems("view v = w\n"), {"v": ("missing", "w")})
        self.assertEqual(problems("view v = Q\n"), {"v": ("missing", "Q")})
        self.assertEqual(problems("data d = D(e)\n"), {"d": ("missing", "e")})
        self.assertEqual(problems("cell c : e = 1\n"), {"c": ("missing", "e")})
        self.assertEqual(problems("cell c : num = 1 turn f\n"), {"c": ("missing", "f")})
        self.assertEqual(problems("act a() = c := 1 then 1\n"), {"a": ("missing", "c")})
        self.assertEqual(problems("fun f(x) = x()\n"), {"f": ("missing", "x")})
        self.assertEqual(problems("view v = case 1 of Q -> 1 end\n"), {"v": ("missing", "Q")})

    def test_what_is_not_in_force_is_missing_for_others(self):
        self.assertEqual(problems("view u = v\nview v = 1 + 'a'\nview w = u\n"),
                         {"v": ("untyped",), "u": ("missing", "v"), "w": ("missing", "u")})

    def test_data_that_are_not_in_force_are_missing_by_their_own_name(self):
        self.assertEqual(problems("data d = A(f)\nfun f() = 1\nview v = A(1)\nview w = case v of A(x) -> x end\n"),
                         {"d": ("untyped",), "v": ("missing", "d"), "w": ("missing", "v")})

    def test_the_first_one_that_is_met_is_told(self):
        self.assertEqual(problems("view v = [g(z), a, Q]\n"), {"v": ("missing", "g")})
        self.assertEqual(problems("act a() = z := y, b := a then 1\n"), {"a": ("missing", "z")})
        self.assertEqual(problems("view v = [n, z, a]\ncell n : num = 1\n"), {"v": ("missing", "z")})

    def test_through_the_definitions_of_a_component_in_the_order_of_names(self):
        text = "fun c() = a() + y\nfun b() = c() + z\nfun a() = b()\n"
        self.assertEqual(problems(text), dict.fromkeys("abc", ("missing", "z")))
        text = "fun b() = a() + y\nfun a() = b() + z\n"
        self.assertEqual(problems(text), dict.fromkeys("ab", ("missing", "z")))

    def test_all_definitions_of_a_component_are_in_force_or_none(self):
        self.assertEqual(problems("fun a() = b()\nfun b() = a() + z\nfun c() = 1\n"),
                         {"a": ("missing", "z"), "b": ("missing", "z")})
        self.assertEqual(problems("data a = A(b)\ndata b = B(a, z)\ndata c = C\n"),
                         {"a": ("missing", "z"), "b": ("missing", "z")})

    def test_names_of_the_own_component_are_not_missing(self):
        self.assertEqual(problems("fun a() = b()\nfun b() = a()\nfun c() = c()\ndata d = D(d)\n"), {})


class RingTest(unittest.TestCase):
    def test_a_view_that_reads_itself(self):
        self.assertEqual(problems("view v = v\n"), {"v": ("ring",)})
        self.assertEqual(problems("view v = if true then 1 else v\nview w = 1\n"), {"v": ("ring",)})

    def test_views_that_read_each_other(self):
        self.assertEqual(problems("view a = b\nview b = c\nview c = a\n"), dict.fromkeys("abc", ("ring",)))

    def test_a_ring_through_functions(self):
        self.assertEqual(problems("view v = f()\nfun f() = g()\nfun g() = v\n"), dict.fromkeys("vfg", ("ring",)))
        self.assertEqual(problems("view v = f(1)\nfun f(x) = f(x) + h()\nfun h() = f(v)\n"),
                         dict.fromkeys("vfh", ("ring",)))

    def test_views_that_read_one_another_without_a_ring(self):
        self.assertEqual(problems("view a = b + c\nview b = c\nview c = 1\n"), {})

    def test_functions_in_a_ring_are_none(self):
        self.assertEqual(problems("fun a() = b()\nfun b() = a()\nview v = a()\n"), {})

    def test_what_reads_a_ring_misses_it(self):
        self.assertEqual(problems("view v = v\nview w = v\nfun f() = w\n"),
                         {"v": ("ring",), "w": ("missing", "v"), "f": ("missing", "w")})


class UnsteadyTest(unittest.TestCase):
    def test_a_cell_that_reads_itself(self):
        self.assertEqual(problems("cell c : num = c\n"), {"c": ("unsteady",)})

    def test_a_cell_that_reads_a_cell_or_a_view(self):
        self.assertEqual(problems("cell c : num = d\ncell d : num = 1\n"), {"c": ("unsteady",)})
        self.assertEqual(problems("cell c : num = v\nview v = 1\n"), {"c": ("unsteady",)})
        self.assertEqual(problems("cell c : num = if true then 1 else v\nview v = 1\n"), {"c": ("unsteady",)})

    def test_through_functions(self):
        self.assertEqual(problems("cell c : num = f()\nfun f() = g()\nfun g() = d\ncell d : num = 1\n"),
                         {"c": ("unsteady",)})
        self.assertEqual(problems("cell c : num = f()\nfun f() = g()\nfun g() = v\nview v = 1\n"),
                         {"c": ("unsteady",)})
        self.assertEqual(problems("cell c : num = f()\nfun f() = c\n"), dict.fromkeys("cf", ("unsteady",)))

    def test_through_the_turn(self):
        self.assertEqual(problems("cell c : num = 1 turn f\nfun f(x) = x + d\ncell d : num = 1\n"),
                         {"c": ("unsteady",)})
        self.assertEqual(problems("cell c : num = 1 turn f\nfun f(x) = c\n"), dict.fromkeys("cf", ("unsteady",)))

    def test_through_an_act(self):
        self.assertEqual(problems("cell c : num = a()\nact a() = d := 1 then 1\ncell d : num = 1\n"),
                         {"c": ("unsteady",)})

    def test_a_cell_that_calls_functions_only(self):
        self.assertEqual(problems("cell c : t = g(A) turn f\ndata t = A\nfun f(x) = g(x)\nfun g(x) = x\n"), {})

    def test_the_same_functions_for_a_view(self):
        self.assertEqual(problems("view w = f()\nfun f() = d\ncell d : num = 1\n"), {})


class FirstProblemTest(unittest.TestCase):
    def test_missing_before_ring(self):
        self.assertEqual(problems("view v = v + z\n"), {"v": ("missing", "z")})

    def test_missing_before_unsteady(self):
        self.assertEqual(problems("cell c : num = c + z\n"), {"c": ("missing", "z")})

    def test_missing_before_untyped(self):
        self.assertEqual(problems("view v = 1 + 'a' + z\n"), {"v": ("missing", "z")})

    def test_ring_before_unsteady(self):
        self.assertEqual(problems("cell c : num = v\nview v = c\n"), dict.fromkeys("cv", ("ring",)))

    def test_ring_before_untyped(self):
        self.assertEqual(problems("view v = v + 'a'\n"), {"v": ("ring",)})

    def test_unsteady_before_untyped(self):
        self.assertEqual(problems("cell c : num = 'a' + d\ncell d : num = 1\n"), {"c": ("unsteady",)})

    def test_untyped(self):
        self.assertEqual(problems("view v = 1 + 'a'\nfun f() = f() + (not f())\n"),
                         {"v": ("untyped",), "f": ("untyped",)})

    def test_an_untyped_definition_takes_its_component_along(self):
        self.assertEqual(problems("fun a() = b()\nfun b() = a() + 'a'\n"), dict.fromkeys("ab", ("untyped",)))


class JudgeTest(unittest.TestCase):
    TEXT = """fun b() = a()
fun a() = b()
view v = a()
view w = w
view x = zz
cell c : num = d
cell d : num = 'a'
data t = T
data u = U | U
act s() = d := 1 then v
"""

    def judged(self, answer):
        calls = []

        def judge(definitions, program):
            calls.append(([definition[1] for definition in definitions], texts.in_force(program)))
            return answer(definitions, program)
        return Program(texts.definitions(self.TEXT), judge), calls

    def test_it_is_called_once_for_each_component_without_another_problem(self):
        made, calls = self.judged(typed)
        self.assertEqual(calls, [(["d"], []), (["t"], []), (["a", "b"], ["t"]), (["v"], ["t", "a", "b"])])
        self.assertEqual(made.problems, Program(made.definitions).problems)
        self.assertEqual(made.schemes, Program(made.definitions).schemes)

    def test_it_can_say_that_nothing_is_typed(self):
        made, calls = self.judged(lambda definitions, program: None)
        self.assertEqual([names for names, _ in calls], [["d"], ["t"], ["a", "b"]])
        self.assertEqual(made.force, [])
        self.assertEqual(made.problems, {
            0: ("untyped",), 1: ("untyped",), 2: ("missing", "a"), 3: ("ring",), 4: ("missing", "zz"),
            5: ("missing", "d"), 6: ("untyped",), 7: ("untyped",), 8: ("twice", "U"), 9: ("missing", "d")})

    def test_it_can_tell_other_schemes(self):
        def answer(definitions, program):
            return {definition[1]: ((), TEXT) for definition in definitions if definition[0] in ("fun", "view", "act")}
        made, calls = self.judged(answer)
        self.assertEqual([names for names, _ in calls], [["d"], ["t"], ["a", "b"], ["v"], ["s"]])
        self.assertEqual(made.schemes, dict.fromkeys("abvs", ((), TEXT)))
        self.assertEqual(made.cells, {"d": NUM})
        self.assertEqual(texts.in_force(made), ["d", "t", "a", "b", "v", "s"])
        self.assertEqual(made.problems, {3: ("ring",), 4: ("missing", "zz"), 5: ("unsteady",), 8: ("twice", "U")})

    def test_it_gets_the_program_with_the_earlier_components(self):
        seen = []

        def judge(definitions, program):
            seen.append((dict(program.schemes), dict(program.cells), dict(program.data), dict(program.makers)))
            return typed(definitions, program)
        Program(texts.definitions("data t = T\ncell c : t = T\nview v = c\n"), judge)
        data = {"t": (("T", ()),)}
        self.assertEqual(seen, [({}, {}, {}, {}), ({}, {}, data, {"T": "t"}),
                                ({}, {"c": (0, "t")}, data, {"T": "t"})])

    def test_what_it_is_given_and_returns_is_its_own(self):
        answers = []

        def judge(definitions, program):
            answers.append(typed(definitions, program))
            definitions.append("more")
            return answers[-1]
        made = Program(texts.definitions("view v = 1\nview w = v\n"), judge)
        answers[0].clear()
        self.assertEqual(texts.in_force(made), ["v", "w"])
        self.assertEqual(made.schemes, {"v": ((), NUM), "w": ((), NUM)})


class RandomTest(unittest.TestCase):
    def test_what_is_in_force_is_in_force_without_the_others(self):
        chance = random.Random(24)
        met = set()
        for _ in range(300):
            given = [making.a_definition(chance) for _ in range(chance.randrange(1, 8))]
            made = Program(given)
            met.update(problem[0] for problem in made.problems.values())
            self.assertEqual(len(made.force) + len(made.problems), len(given))
            alone = Program(made.force)
            self.assertEqual(alone.force, made.force)
            self.assertEqual((alone.schemes, alone.cells, alone.data, alone.makers),
                             (made.schemes, made.cells, made.data, made.makers))
        self.assertEqual(met, {"twice", "missing", "ring", "unsteady", "untyped"})

    def test_all_orders_of_a_few(self):
        given = texts.definitions("data d = D(e)\ndata e = E(d)\ncell c : d = f()\nfun f() = f()\n")
        told = {tuple(texts.in_force(Program(list(some)))) for some in itertools.permutations(given)}
        self.assertEqual(told, {("f", "d", "e", "c")})


if __name__ == "__main__":
    unittest.main()
