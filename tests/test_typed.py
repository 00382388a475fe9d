import unittest

import texts
from quillrun.parser import parse
from quillrun.printer import write_kind
from quillrun.program import Program, typed

BASE = """data color = Red | Green
data tree = Leaf | Node(tree, num, tree)
data box = Box(text, list num)
cell n : num = 1
cell s : text = 'a'
cell l : list num = []
cell t : tree = Leaf
view none = []
view five = 5
fun same(x) = x
fun pair(x, y) = [x, y]
fun first(l) = case l of [] -> first(l); h :: t -> h end
fun zero() = 0
act up(x) = n := x then x
act calm(x) = then x
"""
NAMES = "xyzuvw"


def written(scheme):
    arguments, result = scheme
    return "(" + ", ".join(map(write_kind, arguments)) + ") : " + write_kind(result)


def judged(text):
    """The scheme of the last definition of a text behind the base, or None if it is untyped."""
    made = texts.program(BASE + text + "\n")
    last = len(made.definitions) - 1
    if last in made.problems:
        assert made.problems == {last: ("untyped",)}, made.problems
        return None
    assert made.problems == {}, made.problems
    return made.schemes.get(made.definitions[last][1])


class TypedCase(unittest.TestCase):
    def assert_scheme(self, text, expected):
        told = judged(text)
        self.assertIsNotNone(told, text)
        self.assertEqual(written(told), expected, text)

    def assert_untyped(self, *rows):
        for text in rows:
            made = texts.program(BASE + text + "\n")
            self.assertEqual(made.problems, {len(made.definitions) - 1: ("untyped",)}, text)

    def assert_typed(self, *rows):
        for text in rows:
            self.assertEqual(texts.program(BASE + text + "\n").problems, {}, text)

    def assert_expression(self, e, expected):
        """Names x, y, z are parameters whose types are told before the type of the whole."""
        self.assert_scheme(f"fun f(x, y, z) = {e}", expected)

    def assert_view(self, e, expected):
        self.assert_scheme(f"view v = {e}", "() : " + expected)

    def assert_no_view(self, *rows):
        self.assert_untyped(*[f"view v = {e}" for e in rows])


class LiteralsAndNamesTest(TypedCase):
    def test_literals(self):
        self.assert_view("1", "num")
        self.assert_view("'a'", "text")
        self.assert_view("true", "bool")
        self.assert_view("false", "bool")

    def test_local_names_stand_before_cells_and_views(self):
        self.assert_scheme("fun f(n) = n ++ 'a'", "(text) : text")
        self.assert_scheme("fun f(five) = [five, 'a']", "(text) : list text")
        self.assert_view("let n = true in not n", "bool")
        self.assert_untyped("fun f(n) = n + (let n = 'a' in n)")

    def test_cells_and_views(self):
        self.assert_view("n", "num")
        self.assert_view("[s]", "list text")
        self.assert_view("t", "tree")
        self.assert_view("five + n", "num")
        self.assert_no_view("n ++ 'a'", "five ++ 'a'", "s + 1")

    def test_each_reading_of_a_view_is_an_instance_of_its_own(self):
        self.assert_view("none", "list '0")
        self.assert_view("if (1 :: none) = [] then 'a' :: none else none", "list text")
        self.assert_no_view("1 :: 'a' :: none")

    def test_a_view_has_one_type_in_itself(self):
        self.assert_view("let x = none in 1 :: x", "list num")
        self.assert_no_view("let x = none in if (1 :: x) = [] then 'a' :: x else x")

    def test_other_names_have_no_type(self):
        self.assert_no_view("same", "up", "tree", "zero + 1", "[] = same")
        self.assert_scheme("fun f(same) = same", "('0) : '0")


class OperatorsTest(TypedCase):
    def test_numbers(self):
        for operator in ("+", "-", "*", "/", "mod"):
            self.assert_expression(f"x {operator} y", "(num, num, '0) : num")
            self.assert_no_view(f"1 {operator} 'a'", f"'a' {operator} 1", f"true {operator} 1", f"1 {operator} [1]",
                                f"(1 {operator} 2) ++ 'a'", f"[1] {operator} [1]", f"'a' {operator} 'a'")

    def test_less(self):
        self.assert_expression("x < y", "(num, num, '0) : bool")
        self.assert_no_view("1 < 'a'", "'a' < 'b'", "true < 1", "[1] < [2]", "(1 < 2) + 1", "'a' < 1")

    def test_joining(self):
        self.assert_expression("x ++ y", "(text, text, '0) : text")
        self.assert_no_view("1 ++ 'a'", "'a' ++ 1", "[1] ++ [2]", "('a' ++ 'b') + 1", "1 ++ 1")

    def test_equal(self):
        self.assert_expression("x = y", "('0, '0, '1) : bool")
        self.assert_expression("(x = y) = z", "('0, '0, bool) : bool")
        self.assert_view("Red = Green", "bool")
        self.assert_view("[] = [[1]]", "bool")
        self.assert_no_view("1 = 'a'", "1 = true", "[1] = 1", "['a'] = [1]", "Red = Leaf", "(1 = 1) + 1")
        self.assert_untyped("fun f(x) = x = [x]")

    def test_and_or(self):
        for operator in ("and", "or"):
            self.assert_expression(f"x {operator} y", "(bool, bool, '0) : bool")
            self.assert_no_view(f"1 {operator} true", f"true {operator} 1", f"true {operator} []",
                                f"(true {operator} false) + 1", f"1 {operator} 1")

    def test_not(self):
        self.assert_expression("not x", "(bool, '0, '1) : bool")
        self.assert_no_view("not 1", "not 'a'", "not []", "1 + (not true)")


class FormsTest(TypedCase):
    def test_if(self):
        self.assert_expression("if x then y else z", "(bool, '0, '0) : '0")
        self.assert_view("if true then [] else [1]", "list num")
        self.assert_no_view("if 1 then 1 else 2", "if true then 1 else 'a'", "if true then [] else 1",
                            "(if true then 1 else 2) ++ 'a'")

    def test_let(self):
        self.assert_expression("let a = x in [a, y]", "('0, '0, '1) : list '0")
        self.assert_view("let a = 1 in let a = 'a' in a", "text")
        self.assert_view("let a = 1 in (let a = 'a' in 2) + a", "num")
        self.assert_no_view("let a = 1 in a ++ 'a'", "let a = 1 + 'a' in 1", "let five = 'a' in five + 1")

    def test_the_name_of_a_let_is_not_local_in_its_expression(self):
        self.assert_view("let n = n + 1 in [n]", "list num")
        self.assert_no_view("let same = same in 1")

    def test_the_name_of_a_let_has_one_type(self):
        self.assert_no_view("let e = [] in if (1 :: e) = [] then ('a' :: e) = [] else true")
        self.assert_view("let e = [] in if (1 :: e) = [] then (2 :: e) = [] else true", "bool")

    def test_lists(self):
        self.assert_view("[]", "list '0")
        self.assert_view("[1, 2, n]", "list num")
        self.assert_view("[[], ['a'], []]", "list list text")
        self.assert_expression("[x, y]", "('0, '0, '1) : list '0")
        self.assert_no_view("[1, 'a']", "[1, 2, true]", "[1, [2]]", "[[1], ['a']]", "[1] + 1", "[Red, Leaf]")

    def test_cons(self):
        self.assert_expression("x :: y", "('0, list '0, '1) : list '0")
        self.assert_expression("x :: y :: z", "('0, '0, list '0) : list '0")
        self.assert_expression("x :: []", "('0, '1, '2) : list '0")
        self.assert_no_view("1 :: 2", "1 :: ['a']", "[1] :: [1]", "(1 :: []) + 1", "'a' :: 'b'")
        self.assert_untyped("fun f(x) = x :: x")

    def test_the_choice_of_a_list(self):
        self.assert_expression("case x of [] -> y; h :: t -> h end", "(list '0, '0, '1) : '0")
        self.assert_expression("case x of [] -> y; h :: t -> t end", "(list '0, list '0, '1) : list '0")
        self.assert_expression("case x of [] -> y; h :: t -> z end", "(list '0, '1, '1) : '1")
        self.assert_view("case [1] of [] -> 'a'; h :: t -> 'b' end", "text")
        self.assert_no_view("case 1 of [] -> 1; h :: t -> 2 end", "case [1] of [] -> 1; h :: t -> 'a' end",
                            "case ['a'] of [] -> 1; h :: t -> h end", "case [1] of [] -> 1; h :: t -> t end",
                            "case Red of [] -> 1; h :: t -> 1 end", "1 ++ case [] of [] -> 'a'; h :: t -> 'b' end")

    def test_the_names_of_the_choice_are_not_local_in_the_first_result(self):
        self.assert_no_view("case ['a'] of [] -> s + 1; s :: t -> 2 end")
        self.assert_view("case [1] of [] -> s; s :: t -> 'b' end", "text")

    def test_one_name_twice_in_the_choice_of_a_list(self):
        self.assert_expression("case x of [] -> y; h :: h -> h end", "(list '0, list '0, '1) : list '0")
        self.assert_no_view("case [1] of [] -> 1; h :: h -> h end")

    def test_the_names_of_the_choice_hide_others(self):
        self.assert_view("case ['a'] of [] -> 'b'; n :: l -> n end", "text")
        self.assert_no_view("case ['a'] of [] -> 1; n :: l -> n end")


class CallsTest(TypedCase):
    def test_instances_of_a_scheme(self):
        self.assert_view("same(1)", "num")
        self.assert_view("[same(1), same(same(2))]", "list num")
        self.assert_view("if same(true) then same('a') else same('b')", "text")
        self.assert_view("pair([], [1])", "list list num")
        self.assert_view("zero() + first([1, 2])", "num")
        self.assert_expression("first(x)", "(list '0, '1, '2) : '0")
        self.assert_expression("pair(x, [y])", "(list '0, '0, '1) : list list '0")

    def test_arguments_of_other_types(self):
        self.assert_no_view("pair(1, 'a')", "first(1)", "same(1) ++ 'a'", "pair(1, 2) + 1", "first(['a']) + 1",
                            "same(1 + 'a')")

    def test_other_numbers_of_arguments(self):
        self.assert_no_view("same()", "same(1, 2)", "zero(1)", "pair(1)", "pair(1, 2, 3)", "pair()")

    def test_what_is_no_function(self):
        self.assert_no_view("n()", "five()", "up(1)", "tree()", "t(1)", "none(1)")

    def test_a_call_means_the_function_also_where_the_name_is_local(self):
        self.assert_scheme("fun f(same) = same(same)", "('0) : '0")
        self.assert_view("let zero = 'a' in zero()", "num")
        self.assert_untyped("fun f(n) = n(1)")

    def test_functions_call_themselves_with_their_own_types(self):
        self.assert_scheme("fun f(x) = f(x)", "('0) : '1")
        self.assert_scheme("fun f(x, y) = f(y, x)", "('0, '0) : '1")
        self.assert_scheme("fun f(x) = if true then 1 else f(x) + f(x)", "('0) : num")
        self.assert_untyped("fun f(x) = f([x])", "fun f(x) = if f(1) = f('a') then 1 else 2",
                            "fun f(x) = f()", "fun f() = f(1)", "fun f(x) = [f(x)]", "fun f(x) = f(x, x)")

    def test_functions_that_call_one_another(self):
        made = texts.program(BASE + """fun even(x) = if x = 0 then true else odd(x - 1)
fun odd(x) = if x = 0 then false else even(x - 1)
fun apart(x, y) = if true then [x] else back(y, x)
fun back(x, y) = apart(y, x)
fun loop(x, y) = pool(y, x)
fun pool(x, y) = loop(x, y)
""")
        self.assertEqual(made.problems, {})
        told = {name: written(made.schemes[name]) for name in ("even", "odd", "apart", "back", "loop", "pool")}
        self.assertEqual(told, {
            "even": "(num) : bool", "odd": "(num) : bool", "apart": "('0, '1) : list '0", "back": "('0, '1) : list '1",
            "loop": "('0, '0) : '1", "pool": "('0, '0) : '1"})

    def test_a_function_has_one_type_in_its_component_and_any_outside(self):
        text = BASE + "fun a(x) = if true then x else b(x)\nfun b(x) = a(x)\n"
        self.assertEqual(texts.program(text + "view v = if a(true) then b('a') else a('b')\n").problems, {})
        made = texts.program(BASE + "fun a(x) = if b(1) = 1 then x else b(x)\nfun b(x) = a(x)\n")
        self.assertEqual({written(made.schemes[name]) for name in "ab"}, {"(num) : num"})
        made = texts.program(BASE + "fun a(x) = if b(1) = 1 then b('a') else x\nfun b(x) = a(x)\n")
        self.assertEqual(list(made.problems.values()), [("untyped",), ("untyped",)])

    def test_own_types_with_other_numbers_of_arguments(self):
        made = texts.program("fun a(x) = b()\nfun b(x) = a(x)\n")
        self.assertEqual(made.problems, {0: ("untyped",), 1: ("untyped",)})

    def test_an_act_of_the_component_cannot_be_called(self):
        made = texts.program("fun f() = a()\nact a() = then f()\nact b() = then b()\n")
        self.assertEqual(made.problems, {0: ("untyped",), 1: ("untyped",), 2: ("untyped",)})


class MakesTest(TypedCase):
    def test_makes(self):
        self.assert_view("Red", "color")
        self.assert_view("Node(Leaf, 1, Node(Leaf, n, t))", "tree")
        self.assert_expression("Box(x, y)", "(text, list num, '0) : box")
        self.assert_view("Box('a', [])", "box")

    def test_arguments_of_other_types_and_numbers(self):
        self.assert_no_view("Node(Leaf, 'a', Leaf)", "Node(Red, 1, Leaf)", "Box([], 'a')", "Box('a', 1)", "Box('a')",
                            "Red(1)", "Node(Leaf, 1)", "Node", "Node(Leaf, 1, Leaf, 1)", "Red + 1", "Box('a', ['a'])")


class MatchTest(TypedCase):
    def test_matches(self):
        self.assert_expression("case x of Red -> y; Green -> z end", "(color, '0, '0) : '0")
        self.assert_expression("case x of Node(l, m, r) -> [m]; Leaf -> y end", "(tree, list num, '0) : list num")
        self.assert_expression("case x of Node(l, m, r) -> l; Leaf -> y end", "(tree, tree, '0) : tree")
        self.assert_expression("case x of Box(a, b) -> a end", "(box, '0, '1) : text")
        self.assert_expression("case x of Box(a, b) -> b end", "(box, '0, '1) : list num")

    def test_the_arms_stand_in_any_order(self):
        self.assert_view("case Red of Green -> 1; Red -> 2 end", "num")
        self.assert_view("case Red of Red -> 1; Green -> 2 end", "num")

    def test_what_is_matched_is_of_the_data(self):
        self.assert_no_view("case 1 of Red -> 1; Green -> 2 end", "case Leaf of Red -> 1; Green -> 2 end",
                            "case [Red] of Red -> 1; Green -> 2 end")

    def test_an_arm_that_is_missing(self):
        self.assert_no_view("case Red of Red -> 1 end", "case t of Node(l, m, r) -> 1 end")

    def test_an_arm_twice(self):
        self.assert_no_view("case Red of Red -> 1; Green -> 2; Red -> 3 end", "case Red of Red -> 1; Red -> 2 end",
                            "case Box('a', []) of Box(a, b) -> 1; Box(a, b) -> 1 end")

    def test_an_arm_of_other_data(self):
        self.assert_no_view("case Red of Red -> 1; Leaf -> 2 end", "case Red of Red -> 1; Green -> 2; Leaf -> 3 end",
                            "case Red of Leaf -> 1; Red -> 1; Green -> 2 end")

    def test_other_numbers_of_names(self):
        self.assert_no_view("case Red of Red(x) -> 1; Green -> 2 end", "case Box('a', []) of Box(a) -> 1 end",
                            "case Box('a', []) of Box(a, b, c) -> 1 end", "case Box('a', []) of Box -> 1 end")

    def test_one_name_twice_in_an_arm(self):
        self.assert_no_view("case t of Leaf -> 1; Node(l, l, r) -> 1 end", "case Box('a', []) of Box(a, a) -> 1 end")
        self.assert_view("case t of Leaf -> 1; Node(l, m, r) -> case t of Leaf -> 1; Node(l, m, r) -> 2 end end", "num")

    def test_arms_of_other_types(self):
        self.assert_no_view("case Red of Red -> 1; Green -> 'a' end", "case Box('a', []) of Box(a, b) -> a + 1 end",
                            "(case Red of Red -> 1; Green -> 2 end) ++ 'a'")

    def test_the_names_of_an_arm_are_local_there_only(self):
        self.assert_view("case Box('a', []) of Box(n, l) -> n end", "text")
        self.assert_view("case t of Leaf -> n; Node(a, n, b) -> n end", "num")
        self.assert_no_view("case Box('a', []) of Box(n, l) -> n + 1 end")
        self.assert_untyped("view v = case t of Node(a, s, b) -> s; Leaf -> s end")


class DefinitionsTest(TypedCase):
    def test_data(self):
        self.assert_typed("data d = A", "data d = A(num, list text, bool, d, list list tree)")
        self.assertIsNone(judged("data d = A(list d)"))
        self.assert_untyped("data d = A(n)", "data d = A(list same)", "data d = A | B(num, five)", "data d = A(up)")

    def test_data_that_need_each_other(self):
        self.assertEqual(texts.program("data a = A(b) | C\ndata b = B(list a, c)\ndata c = D(a)\n").problems, {})
        self.assertEqual(texts.program("fun f() = 1\ndata a = A(b) | C\ndata b = B(a, f)\n").problems,
                         {1: ("untyped",), 2: ("untyped",)})

    def test_parameters_that_are_the_same(self):
        self.assert_untyped("fun f(x, x) = 1", "fun f(x, y, x) = y", "act a(x, x) = then 1")
        self.assert_typed("fun f(x, y) = 1", "act a(x, y) = then 1")

    def test_cells(self):
        self.assert_typed("cell c : num = 1", "cell c : list color = [Red]", "cell c : list list num = []",
                          "cell c : tree = Node(Leaf, 1, Leaf)", "cell c : list tree = same([])")
        self.assert_untyped("cell c : num = 'a'", "cell c : list num = ['a']", "cell c : list num = 1",
                            "cell c : tree = Red", "cell c : color = [Red]", "cell c : list num = [[]]")

    def test_the_type_of_a_cell_is_of_data_in_force(self):
        made = texts.program(BASE + "cell c : same = 1\ncell d : list same = []\ncell e : calm = 1\n")
        self.assertEqual(set(made.problems.values()), {("untyped",)})
        self.assertEqual(len(made.problems), 3)

    def test_turns(self):
        self.assert_typed("cell c : num = 1 turn same", "cell c : tree = t2() turn same\nfun t2() = Leaf",
                          "cell c : num = 1 turn first", "cell c : list list num = [] turn same")

    def test_turns_that_are_no_function_with_one_parameter(self):
        self.assert_untyped("cell c : num = 1 turn zero", "cell c : list num = [] turn pair", "cell c : num = 1 turn calm",
                            "cell c : num = 1 turn tree")

    def test_turns_whose_result_has_no_instance(self):
        more = "fun one(x) = 1\nfun many(x) = [[x]]\nfun loops(x) = loops(x)\n"
        for text, problem in [
                ("cell c : num = 1 turn one", False), ("cell c : text = 'a' turn one", True),
                ("cell c : list num = [] turn one", True), ("cell c : list list num = [] turn many", False),
                ("cell c : list list list tree = [] turn many", False), ("cell c : list num = [] turn many", True),
                ("cell c : color = Red turn loops", False)]:
            made = texts.program(BASE + more + text + "\n")
            self.assertEqual(list(made.problems.values()), [("untyped",)] if problem else [], text)

    def test_acts(self):
        self.assert_scheme("act a(x, y) = n := x, s := y then [x]", "(num, text) : list num")
        self.assert_scheme("act a() = then 'a'", "() : text")
        self.assert_scheme("act a(x) = l := x :: l then x", "(num) : num")
        self.assert_scheme("act a(x) = then x", "('0) : '0")
        self.assert_scheme("act a(n) = n := 1 then n ++ 'a'", "(text) : text")
        self.assert_untyped("act a() = n := 'a' then 1", "act a() = l := ['a'] then 1", "act a() = n := 1 then 1 + 'a'",
                            "act a(x) = n := x, s := x then 1", "act a(n) = n := n then n ++ 'a'")

    def test_an_act_sets_each_cell_once(self):
        self.assert_untyped("act a() = n := 1, n := 2 then 1", "act a() = n := 1, s := 'a', n := 1 then 1")
        self.assert_typed("act a() = n := 1, s := 'a' then 1")

    def test_an_act_sets_cells_only(self):
        self.assert_untyped("act a() = five := 5 then 1", "act a() = same := 1 then 1", "act a() = tree := Leaf then 1",
                            "act a() = up := 1 then 1", "act a() = a := 1 then 1")

    def test_functions_and_views(self):
        self.assert_scheme("fun f() = []", "() : list '0")
        self.assert_scheme("fun f(x, y, z) = if x then [y] else z", "(bool, '0, list '0) : list '0")
        self.assert_scheme("fun f(x, y) = [[y], [[]]]", "('0, list '1) : list list list '1")
        self.assert_view("let x = [] in 1", "num")


def nested(levels, inside):
    return "[" * levels + inside + "]" * levels


class TwelveListsTest(TypedCase):
    BASE = f"fun three(x) = {nested(3, 'x')}\nfun six(x) = {nested(6, 'x')}\nfun nine(x) = {nested(9, 'x')}\n"

    def assert_many(self, text, is_typed):
        made = texts.program(self.BASE + text + "\n")
        self.assertEqual(list(made.problems.values()), [] if is_typed else [("untyped",)], text)

    def test_in_results(self):
        self.assert_many("view v = six(six(1))", True)
        self.assert_many("view v = [six(six(1))]", False)
        self.assert_many("fun f(x) = six(six(x))", True)
        self.assert_many("fun f(x) = [six(six(x))]", False)
        self.assert_many("act a(x) = then six(six(x))", True)
        self.assert_many("act a(x) = then six([six(x)])", False)
        self.assert_many("view v = six(nine([]))", False)

    def test_in_arguments(self):
        self.assert_many("fun f(x) = x = six(six(1))", True)
        self.assert_many("fun f(x) = x = six([six(1)])", False)
        self.assert_many("fun f(y, x) = x = six([six(y)])", False)
        self.assert_many("act a(x) = then x = six(six(1))", True)
        self.assert_many("act a(x) = then x = six([six(1)])", False)

    def test_within_an_expression_there_may_be_more(self):
        self.assert_many("view v = nine(nine(nine(1))) = []", True)
        self.assert_many("fun f(x) = let y = nine(nine(nine(x))) in x", True)
        self.assert_many("act a(x) = then nine(nine(x)) = []", True)

    def test_types_with_variables_count_too(self):
        self.assert_many("view v = six(three([[]]))", True)
        self.assert_many("view v = six(three([[[]]]))", True)
        self.assert_many("view v = six(six([]))", False)

    def test_one_function_takes_its_component_along(self):
        made = texts.program(self.BASE + "fun a(x) = [b([six(six(x))])]\nfun b(x) = if a(1) = [] then 1 else 1\n")
        self.assertEqual(set(made.problems.values()), {("untyped",)})
        self.assertEqual(len(made.problems), 2)

    def test_cells_and_data_may_have_twelve(self):
        text = f"cell c : {'list ' * 12}num = []\ndata d = D({'list ' * 12}d)\nview v = c\nview w = [c]\n"
        made = texts.program(text)
        self.assertEqual(made.problems, {3: ("untyped",)})
        self.assertEqual(made.schemes["v"], ((), (12, "num")))


class TypedItselfTest(unittest.TestCase):
    def test_what_it_returns(self):
        made = Program([])
        self.assertEqual(typed([parse("data d = D(d)")], made), {})
        self.assertEqual(typed([parse("cell c : num = 1")], made), {})
        self.assertEqual(typed([parse("view v = 1")], made), {"v": ((), (0, "num"))})
        self.assertEqual(typed([parse("fun f(x) = x")], made), {"f": (((0, 0),), (0, 0))})
        self.assertEqual(typed([parse("act a(x) = then [x]")], made), {"a": (((0, 0),), (1, 0))})
        self.assertIsNone(typed([parse("data d = D(e)")], made))
        self.assertIsNone(typed([parse("cell c : num = 'a'")], made))
        self.assertIsNone(typed([parse("view v = 1 + 'a'")], made))

    def test_names_that_the_program_does_not_have(self):
        made = Program([])
        for text in ("view v = w", "view v = f()", "view v = A", "view v = case 1 of A -> 1 end", "cell c : d = 1",
                     "cell c : num = 1 turn f", "act a() = c := 1 then 1"):
            self.assertIsNone(typed([parse(text)], made), text)

    def test_the_component_and_the_program_stay_as_they_are(self):
        made = texts.program(BASE)
        before = (list(made.force), dict(made.schemes), dict(made.cells), dict(made.problems))
        component = texts.definitions("fun a(x) = b(x)\nfun b(x) = a(x) + n\n")
        given = list(component)
        self.assertEqual(typed(given, made), {name: (((0, 0),), (0, "num")) for name in "ab"})
        self.assertEqual(given, component)
        self.assertEqual((made.force, made.schemes, made.cells, made.problems), before)


if __name__ == "__main__":
    unittest.main()
