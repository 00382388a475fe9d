import unittest

from quillrun.code import code_of, definition_code
from quillrun.parser import parse
from texts import expression


class CodeCase(unittest.TestCase):
    def assert_code(self, text, *instructions, names=()):
        self.assertEqual(code_of(expression(text), names), instructions, text)


class CodeOfTest(CodeCase):
    def test_literals(self):
        self.assert_code("12", ("push", 12))
        self.assert_code("'it''s'", ("push", "it's"))
        self.assert_code("true", ("push", True))
        self.assert_code("false", ("push", False))
        self.assertIs(code_of(("bool", True), ())[0][1], True)

    def test_names(self):
        self.assert_code("x", ("look", "x"))
        self.assert_code("x", ("look", "x"), names=("y", "z"))
        self.assert_code("x", ("local", 0), names=("x",))
        self.assert_code("x", ("local", 2), names=("x", "y", "z"))
        self.assert_code("y", ("local", 1), names=("x", "y", "z"))
        self.assert_code("z", ("local", 0), names=("x", "y", "z"))

    def test_the_nearest_one_of_a_name(self):
        self.assert_code("x", ("local", 1), names=("x", "x", "y"))
        self.assert_code("x", ("local", 0), names=("x", "y", "x"))

    def test_the_names_can_be_a_list(self):
        self.assertEqual(code_of(expression("let y = x in y + x"), ["x"]), code_of(expression("let y = x in y + x"), ("x",)))

    def test_operators(self):
        for operator in ("+", "-", "*", "/", "mod", "++", "=", "<"):
            self.assert_code(f"x {operator} 1", ("look", "x"), ("push", 1), ("op", operator))
        self.assert_code("1 - 2 - 3", ("push", 1), ("push", 2), ("op", "-"), ("push", 3), ("op", "-"))
        self.assert_code("1 - (2 - 3)", ("push", 1), ("push", 2), ("push", 3), ("op", "-"), ("op", "-"))

    def test_and_or(self):
        self.assert_code("a and b", ("look", "a"), ("stays", False, 1), ("look", "b"))
        self.assert_code("a or b", ("look", "a"), ("stays", True, 1), ("look", "b"))
        self.assert_code("a and b + c", ("look", "a"), ("stays", False, 3), ("look", "b"), ("look", "c"), ("op", "+"))
        self.assert_code("a or b and c", ("look", "a"), ("stays", True, 3), ("look", "b"), ("stays", False, 1), ("look", "c"))
        self.assert_code("(a or b) and c", ("look", "a"), ("stays", True, 1), ("look", "b"), ("stays", False, 1),
                         ("look", "c"))

    def test_not(self):
        self.assert_code("not a", ("look", "a"), ("not",))
        self.assert_code("not not (a = 1)", ("look", "a"), ("push", 1), ("op", "="), ("not",), ("not",))

    def test_if(self):
        self.assert_code("if c then a else b", ("look", "c"), ("unless", 2), ("look", "a"), ("skip", 1), ("look", "b"))
        self.assert_code("if c then a + 1 else not not b", ("look", "c"), ("unless", 4), ("look", "a"), ("push", 1),
                         ("op", "+"), ("skip", 3), ("look", "b"), ("not",), ("not",))
        self.assert_code("if if p then q else r then a else b", ("look", "p"), ("unless", 2), ("look", "q"), ("skip", 1),
                         ("look", "r"), ("unless", 2), ("look", "a"), ("skip", 1), ("look", "b"))

    def test_let(self):
        self.assert_code("let x = 1 in x", ("push", 1), ("keep",), ("local", 0), ("leave", 1))
        self.assert_code("let x = x in [x, y]", ("look", "x"), ("keep",), ("local", 0), ("local", 1), ("list", 2),
                         ("leave", 1), names=("y",))
        self.assert_code("let x = 1 in let y = x in x + y", ("push", 1), ("keep",), ("local", 0), ("keep",),
                         ("local", 1), ("local", 0), ("op", "+"), ("leave", 1), ("leave", 1))
        self.assert_code("let x = 1 in let x = x in x", ("push", 1), ("keep",), ("local", 0), ("keep",), ("local", 0),
                         ("leave", 1), ("leave", 1))
        self.assert_code("(let x = 1 in x) + x", ("push", 1), ("keep",), ("local", 0), ("leave", 1), ("local", 0),
                         ("op", "+"), names=("x",))

    def test_lists(self):
        self.assert_code("[]", ("list", 0))
        self.assert_code("[1, [x], 'a']", ("push", 1), ("look", "x"), ("list", 1), ("push", "a"), ("list", 3))
        self.assert_code("1 :: x :: []", ("push", 1), ("look", "x"), ("list", 0), ("pair",), ("pair",))

    def test_the_choice_of_a_list(self):
        self.assert_code("case l of [] -> e; h :: t -> h end", ("look", "l"), ("open", 2), ("look", "e"), ("skip", 2),
                         ("local", 1), ("leave", 2))
        self.assert_code("case l of [] -> h + t; h :: t -> t end", ("look", "l"), ("open", 4), ("look", "h"), ("look", "t"),
                         ("op", "+"), ("skip", 2), ("local", 0), ("leave", 2))
        self.assert_code("case x of [] -> x; h :: t -> [x, h, t] end", ("local", 0), ("open", 2), ("local", 0), ("skip", 5),
                         ("local", 2), ("local", 1), ("local", 0), ("list", 3), ("leave", 2), names=("x",))
        self.assert_code("case l of [] -> 0; h :: h -> h end", ("look", "l"), ("open", 2), ("push", 0), ("skip", 2),
                         ("local", 0), ("leave", 2))

    def test_calls(self):
        self.assert_code("f()", ("call", "f", 0))
        self.assert_code("f(1, g(x))", ("push", 1), ("look", "x"), ("call", "g", 1), ("call", "f", 2))
        self.assert_code("f(f)", ("local", 0), ("call", "f", 1), names=("f",))

    def test_makes(self):
        self.assert_code("Leaf", ("make", "Leaf", 0))
        self.assert_code("Node(Leaf, x)", ("make", "Leaf", 0), ("look", "x"), ("make", "Node", 2))

    def test_matches(self):
        self.assert_code("case m of A -> 1 end", ("look", "m"), ("pick", (("A", 0, 0),)), ("push", 1), ("leave", 0),
                         ("skip", 0))
        self.assert_code("case m of A -> 1; B(x) -> x + 1; C(x, y) -> x end",
                         ("look", "m"), ("pick", (("A", 0, 0), ("B", 1, 3), ("C", 2, 8))),
                         ("push", 1), ("leave", 0), ("skip", 8),
                         ("local", 0), ("push", 1), ("op", "+"), ("leave", 1), ("skip", 3),
                         ("local", 1), ("leave", 2), ("skip", 0))

    def test_the_choices_stand_in_the_order_of_the_arms(self):
        self.assert_code("case m of B -> 1; A -> 2; B(x) -> x end", ("look", "m"),
                         ("pick", (("B", 0, 0), ("A", 0, 3), ("B", 1, 6))), ("push", 1), ("leave", 0), ("skip", 6),
                         ("push", 2), ("leave", 0), ("skip", 3), ("local", 0), ("leave", 1), ("skip", 0))

    def test_names_of_arms(self):
        self.assert_code("case m of A(x, x) -> [x, y, m] end", ("local", 1), ("pick", (("A", 2, 0),)), ("local", 0),
                         ("local", 2), ("local", 3), ("list", 3), ("leave", 2), ("skip", 0), names=("m", "y"))

    def test_nested_forms(self):
        self.assert_code(
            "case if c then l else [] of [] -> let a = 1 in a; h :: t -> case h of A(x) -> x and h; B -> t end end",
            ("look", "c"), ("unless", 2), ("look", "l"), ("skip", 1), ("list", 0),
            ("open", 5), ("push", 1), ("keep",), ("local", 0), ("leave", 1), ("skip", 11),
            ("local", 1), ("pick", (("A", 1, 0), ("B", 0, 5))),
            ("local", 0), ("stays", False, 1), ("local", 2), ("leave", 1), ("skip", 3),
            ("local", 0), ("leave", 0), ("skip", 0), ("leave", 2))


class DefinitionCodeTest(unittest.TestCase):
    def assert_codes(self, text, expected):
        self.assertEqual(definition_code(parse(text)), expected, text)

    def test_functions(self):
        self.assert_codes("fun f(x, y) = x - y", ((("local", 1), ("local", 0), ("op", "-")),))
        self.assert_codes("fun f() = f", ((("look", "f"),),))
        self.assert_codes("fun f(x, x) = x", ((("local", 0),),))

    def test_views(self):
        self.assert_codes("view v = n", ((("look", "n"),),))

    def test_acts(self):
        self.assert_codes("act a(x, y) = c := x, d := c + y then [x]", (
            (("local", 1),), (("look", "c"), ("local", 0), ("op", "+")), (("local", 1), ("list", 1))))
        self.assert_codes("act a() = then 1", ((("push", 1),),))
        self.assert_codes("act a(c) = c := c then c", ((("local", 0),), (("local", 0),)))

    def test_other_definitions(self):
        self.assert_codes("cell c : num = 1 turn f", None)
        self.assert_codes("data d = A | B(num)", None)


if __name__ == "__main__":
    unittest.main()
