import unittest

from quillrun.parser import parse
from quillrun.uses import makers_used, makes, uses

MAKERS = {"A": "da", "B": "db", "C": "da"}


class MakesTest(unittest.TestCase):
    def test_all_but_data_make_their_own_name_only(self):
        self.assertEqual(makes(parse("fun f(x) = A(x)")), ["f"])
        self.assertEqual(makes(parse("cell c : d = B turn f")), ["c"])
        self.assertEqual(makes(parse("view v = w")), ["v"])
        self.assertEqual(makes(parse("act a(x) = c := x then B")), ["a"])

    def test_data_make_their_makers_too_in_their_order(self):
        self.assertEqual(makes(parse("data d = A")), ["d", "A"])
        self.assertEqual(makes(parse("data d = C(e, num) | A | B(d)")), ["d", "C", "A", "B"])

    def test_a_maker_that_is_made_twice(self):
        self.assertEqual(makes(parse("data d = A | B | A(num)")), ["d", "A", "B", "A"])


class MakersUsedTest(unittest.TestCase):
    def assert_makers(self, text, expected):
        self.assertEqual(makers_used(parse(text)), expected)

    def test_none(self):
        self.assert_makers("fun f(x) = x + g(x)", [])
        self.assert_makers("cell c : tree = 1", [])

    def test_data_use_no_makers(self):
        self.assert_makers("data d = A | B(d)", [])

    def test_a_make_stands_before_its_arguments(self):
        self.assert_makers("view v = B(A, [C(Z)])", ["B", "A", "C", "Z"])

    def test_a_maker_of_an_arm_stands_before_its_arm(self):
        self.assert_makers("view v = case Q(R) of B(x) -> A; A -> Z; C -> Y end", ["Q", "R", "B", "A", "Z", "C", "Y"])

    def test_each_once(self):
        self.assert_makers("view v = [A, B, A(B), case A of B -> C; C -> A end]", ["A", "B", "C"])

    def test_every_form_and_definition(self):
        self.assert_makers("fun f(x) = if A then B else let y = C in D", ["A", "B", "C", "D"])
        self.assert_makers("view v = case A of [] -> B; h :: t -> C end", ["A", "B", "C"])
        self.assert_makers("view v = not A and B or C + D :: E", ["A", "B", "C", "D", "E"])
        self.assert_makers("cell c : d = g(A, B) turn f", ["A", "B"])
        self.assert_makers("act a() = d := B, c := A(C) then D", ["B", "A", "C", "D"])
        self.assert_makers("act a() = then B", ["B"])


class UsesTest(unittest.TestCase):
    def assert_uses(self, text, expected):
        self.assertEqual(uses(parse(text), MAKERS), expected)

    def test_data_use_the_names_of_data_in_their_types(self):
        self.assert_uses("data d = A | B()", [])
        self.assert_uses("data d = A(num, text, bool, list list num)", [])
        self.assert_uses("data d = A(e, list list g) | B(h, e, d)", ["e", "g", "h", "d"])

    def test_names_that_are_not_local(self):
        self.assert_uses("view v = 1", [])
        self.assert_uses("view v = b + a * b", ["b", "a"])
        self.assert_uses("view v = v", ["v"])

    def test_parameters_are_local(self):
        self.assert_uses("fun f(x, y) = x + z + y", ["z"])
        self.assert_uses("act a(x) = c := x, x := y then x + z", ["c", "x", "y", "z"])
        self.assert_uses("act a(x) = d := 1 then x", ["d"])

    def test_the_name_of_a_definition_is_not_local(self):
        self.assert_uses("fun f() = f", ["f"])
        self.assert_uses("fun f(f) = f", [])

    def test_a_call_means_the_function_also_where_the_name_is_local(self):
        self.assert_uses("fun f(x) = x(x)", ["x"])
        self.assert_uses("fun f(f) = f(f)", ["f"])
        self.assert_uses("view v = let g = 1 in g(g)", ["g"])
        self.assert_uses("view v = case A of B(h) -> h(h) end", ["da", "db", "h"])

    def test_a_call_stands_before_its_arguments(self):
        self.assert_uses("view v = g(a, h(b), a)", ["g", "a", "h", "b"])

    def test_let(self):
        self.assert_uses("view v = let x = a in x + b", ["a", "b"])
        self.assert_uses("view v = let x = x in x", ["x"])
        self.assert_uses("view v = (let x = 1 in x) + x", ["x"])
        self.assert_uses("view v = let x = 1 in let y = x in x + y", [])
        self.assert_uses("view v = let x = let y = 1 in y in y", ["y"])

    def test_the_names_of_the_choice_of_a_list_are_local_in_its_last_expression_only(self):
        self.assert_uses("view v = case l of [] -> e; h :: t -> h + t + u end", ["l", "e", "u"])
        self.assert_uses("view v = case h of [] -> t; h :: t -> h + t end", ["h", "t"])
        self.assert_uses("view v = case t of [] -> h; h :: t -> h + t end", ["t", "h"])
        self.assert_uses("view v = case l of [] -> 1; h :: h -> h end", ["l"])
        self.assert_uses("view v = (case l of [] -> 1; h :: t -> 2 end) + h + t", ["l", "h", "t"])

    def test_the_names_of_an_arm_are_local_in_the_arm_only(self):
        self.assert_uses("view v = case x of A(x, y) -> x + y; B(z) -> x + y + z end", ["x", "da", "db", "y"])
        self.assert_uses("view v = (case e of A(x) -> x end) + x", ["e", "da", "x"])

    def test_makers_use_their_data(self):
        self.assert_uses("view v = B(A, C)", ["db", "da"])
        self.assert_uses("view v = case m of A -> n; B -> o; C -> p end", ["m", "da", "n", "db", "o", "p"])

    def test_makers_without_data_use_their_own_names(self):
        self.assert_uses("view v = Q(A, R(Q))", ["Q", "da", "R"])
        self.assert_uses("view v = case m of Q -> n; R -> Q end", ["m", "Q", "n", "R"])
        self.assertEqual(uses(parse("view v = A(B)"), {}), ["A", "B"])
        self.assertEqual(uses(parse("view v = A(B)"), {"B": "d"}), ["A", "d"])

    def test_the_makers_of_data_itself_are_not_used(self):
        self.assert_uses("data da = A(da) | C", ["da"])

    def test_a_cell_uses_its_type_then_its_expression_then_its_turn(self):
        self.assert_uses("cell c : list e = g(a) turn f", ["e", "g", "a", "f"])
        self.assert_uses("cell c : num = 1", [])
        self.assert_uses("cell c : list text = x turn x", ["x"])
        self.assert_uses("cell c : f = a turn f", ["f", "a"])
        self.assert_uses("cell c : num = 1 turn c", ["c"])

    def test_an_act_uses_each_cell_before_its_expression(self):
        self.assert_uses("act a() = d := x, c := y + d then z", ["d", "x", "c", "y", "z"])
        self.assert_uses("act a() = then z", ["z"])
        self.assert_uses("act a(d) = d := d then d", ["d"])

    def test_an_act_that_sets_one_cell_twice(self):
        self.assert_uses("act a() = c := x, d := y, c := z then c", ["c", "x", "d", "y", "z"])

    def test_each_once_at_its_first_place(self):
        self.assert_uses("view v = [b, a, c, a, b(c), d]", ["b", "a", "c", "d"])
        self.assert_uses("view v = da + A + B + db", ["da", "db"])

    def test_every_form(self):
        self.assert_uses("view v = if a then b else c", ["a", "b", "c"])
        self.assert_uses("view v = not a and b or c", ["a", "b", "c"])
        self.assert_uses("view v = a :: b :: []", ["a", "b"])
        self.assert_uses("view v = [a, [b], 'c', 1, true]", ["a", "b"])
        self.assert_uses("view v = a - b / c mod d ++ e", ["a", "b", "c", "d", "e"])
        self.assert_uses("view v = (a = b) = (c < d)", ["a", "b", "c", "d"])

    def test_the_makers_stay_as_they_are(self):
        uses(parse("view v = A(Q)"), MAKERS)
        self.assertEqual(MAKERS, {"A": "da", "B": "db", "C": "da"})


if __name__ == "__main__":
    unittest.main()
