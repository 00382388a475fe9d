import unittest

from quillrun.errors import RefusedChunk
from quillrun.parser import parse

LEFT = {"or": 2, "and": 3, "+": 7, "-": 7, "++": 7, "*": 8, "/": 8, "mod": 8}
LINES = {"=": 5, "<": 5, "::": 6, **LEFT}
A, B, C = ("name", "a"), ("name", "b"), ("name", "c")
ONE, TWO = ("number", 1), ("number", 2)


def e(text):
    """The tree of an expression."""
    return parse("view v = " + text)[2]


def joined(operator, first, second):
    if operator == "::":
        return ("cons", first, second)
    return ("binary", operator, first, second)


class ParserTest(unittest.TestCase):
    def assert_refused_expression(self, text, position):
        with self.assertRaises(RefusedChunk) as caught:
            e(text)
        self.assertEqual(caught.exception.position, 9 + position, text)


class DefinitionsTest(unittest.TestCase):
    def test_data(self):
        self.assertEqual(parse("data d = A"), ("data", "d", (("A", ()),)))
        self.assertEqual(parse("data d = A()"), ("data", "d", (("A", ()),)))
        self.assertEqual(parse("data d = A | B() | C(num)"), ("data", "d", (("A", ()), ("B", ()), ("C", ((0, "num"),)))))
        self.assertEqual(parse("data d=A(d,text , list num)|A"),
                         ("data", "d", (("A", ((0, "d"), (0, "text"), (1, "num"))), ("A", ()))))

    def test_fun(self):
        self.assertEqual(parse("fun f() = 1"), ("fun", "f", (), ONE))
        self.assertEqual(parse("fun f(x) = 1"), ("fun", "f", ("x",), ONE))
        self.assertEqual(parse("fun f(x,x ,y)=1\n"), ("fun", "f", ("x", "x", "y"), ONE))

    def test_cell(self):
        self.assertEqual(parse("cell c : num = 1"), ("cell", "c", (0, "num"), ONE, None))
        self.assertEqual(parse("cell c : num = 1 turn f"), ("cell", "c", (0, "num"), ONE, "f"))
        self.assertEqual(parse("cell c:list d=let a = 1 in a\n turn f"),
                         ("cell", "c", (1, "d"), ("let", "a", ONE, A), "f"))

    def test_view(self):
        self.assertEqual(parse("view v = 1"), ("view", "v", ONE))

    def test_act(self):
        self.assertEqual(parse("act a() = then 1"), ("act", "a", (), (), ONE))
        self.assertEqual(parse("act a(x) = c := 1 then 2"), ("act", "a", ("x",), (("c", ONE),), TWO))
        self.assertEqual(parse("act a(x, y) = c := if a then b else 1, d := a = b, c := 2\n then let a = 1 in 2"),
                         ("act", "a", ("x", "y"),
                          (("c", ("if", A, B, ONE)), ("d", ("binary", "=", A, B)), ("c", TWO)), ("let", "a", ONE, TWO)))

    def test_types(self):
        for text, kind in (("num", (0, "num")), ("text", (0, "text")), ("bool", (0, "bool")), ("d", (0, "d")),
                           ("list num", (1, "num")), ("list list list d", (3, "d")),
                           ("list " * 12 + "bool", (12, "bool"))):
            self.assertEqual(parse(f"cell c : {text} = 1")[2], kind)
            self.assertEqual(parse(f"data d = A({text}, num)")[2], (("A", (kind, (0, "num"))),))

    def test_blanks_around_a_definition(self):
        self.assertEqual(parse("\n  view\nv\n =\n 1 \n\n"), ("view", "v", ONE))


class ExpressionsTest(ParserTest):
    def test_simple_expressions(self):
        self.assertEqual(e("007"), ("number", 7))
        self.assertEqual(e("'it''s'"), ("text", "it's"))
        self.assertIs(e("true")[1], True)
        self.assertIs(e("false")[1], False)
        self.assertEqual((e("true"), e("false")), (("bool", True), ("bool", False)))
        self.assertEqual(e("a"), A)
        self.assertEqual(e("((a))"), A)

    def test_lists(self):
        self.assertEqual(e("[]"), ("list", ()))
        self.assertEqual(e("[1]"), ("list", (ONE,)))
        self.assertEqual(e("[1, [2], []]"), ("list", (ONE, ("list", (TWO,)), ("list", ()))))

    def test_calls_and_makes(self):
        self.assertEqual(e("f()"), ("call", "f", ()))
        self.assertEqual(e("f(1, g(a))"), ("call", "f", (ONE, ("call", "g", (A,)))))
        self.assertEqual(e("M"), ("make", "M", ()))
        self.assertEqual(e("M()"), ("make", "M", ()))
        self.assertEqual(e("M (1,N, a)"), ("make", "M", (ONE, ("make", "N", ()), A)))

    def test_if_and_let(self):
        self.assertEqual(e("if a then b else c"), ("if", A, B, C))
        self.assertEqual(e("let a = 1 in b"), ("let", "a", ONE, B))

    def test_they_extend_as_far_to_the_right_as_possible(self):
        self.assertEqual(e("if a then b else c or 1"), ("if", A, B, ("binary", "or", C, ONE)))
        self.assertEqual(e("let a = 1 or b in b or 2"),
                         ("let", "a", ("binary", "or", ONE, B), ("binary", "or", B, TWO)))
        self.assertEqual(e("if a then if b then 1 else 2 else c"), ("if", A, ("if", B, ONE, TWO), C))
        self.assertEqual(e("if if a then b else c then 1 else let a = 1 in if a then b else c"),
                         ("if", ("if", A, B, C), ONE, ("let", "a", ONE, ("if", A, B, C))))

    def test_choices(self):
        self.assertEqual(e("case a of [] -> 1; b :: c -> 2 end"), ("split", A, ONE, "b", "c", TWO))
        self.assertEqual(e("case a of M -> 1 end"), ("match", A, (("M", (), ONE),)))
        self.assertEqual(e("case a of M() -> 1; N(b) -> 2; M(b, c) -> a end"),
                         ("match", A, (("M", (), ONE), ("N", ("b",), TWO), ("M", ("b", "c"), A))))

    def test_choices_in_choices(self):
        self.assertEqual(e("case case a of M -> b end of M -> case c of [] -> 1; a :: a -> 2 end; N -> 1 end"),
                         ("match", ("match", A, (("M", (), B),)),
                          (("M", (), ("split", C, ONE, "a", "a", TWO)), ("N", (), ONE))))

    def test_where_line_1_may_stand(self):
        inner = ("if", A, B, C)
        self.assertEqual(e("1 + (if a then b else c)"), ("binary", "+", ONE, inner))
        self.assertEqual(e("[if a then b else c, let a = 1 in 2]"), ("list", (inner, ("let", "a", ONE, TWO))))
        self.assertEqual(e("f(1, if a then b else c)"), ("call", "f", (ONE, inner)))
        self.assertEqual(e("M(if a then b else c)"), ("make", "M", (inner,)))
        self.assertEqual(e("case if a then b else c of M -> if a then b else c; N -> 1 end"),
                         ("match", inner, (("M", (), inner), ("N", (), ONE))))

    def test_where_line_1_may_not_stand(self):
        for start in ("1 + ", "a or ", "a and ", "not ", "a = ", "a :: ", "a * ", "a ++ ", "not not "):
            for whole in ("if a then b else c", "let a = 1 in b"):
                self.assert_refused_expression(start + whole, len(start))


class BindingTest(ParserTest):
    def test_every_two_operators(self):
        for first in LINES:
            for second in LINES:
                text = f"a {first} b {second} c"
                left = joined(second, joined(first, A, B), C)
                right = joined(first, A, joined(second, B, C))
                if LINES[first] == LINES[second] == 5:
                    self.assert_refused_expression(text, text.rindex(second))
                elif LINES[first] > LINES[second] or (LINES[first] == LINES[second] and first in LEFT):
                    self.assertEqual(e(text), left, text)
                else:
                    self.assertEqual(e(text), right, text)
                self.assertEqual(e(f"(a {first} b) {second} c"), left)
                self.assertEqual(e(f"a {first} (b {second} c)"), right)

    def test_longer_rows_of_operators(self):
        self.assertEqual(e("a :: b :: c :: []"), ("cons", A, ("cons", B, ("cons", C, ("list", ())))))
        self.assertEqual(e("1 - 2 - a - b"),
                         ("binary", "-", ("binary", "-", ("binary", "-", ONE, TWO), A), B))
        self.assertEqual(e("a or b and c = 1 :: 2 + a * b"),
                         ("binary", "or", A, ("binary", "and", B, ("binary", "=", C, (
                             "cons", ONE, ("binary", "+", TWO, ("binary", "*", A, B)))))))
        self.assertEqual(e("a mod b * c + 1 :: 2 < c and a or b"),
                         ("binary", "or", ("binary", "and", ("binary", "<", (
                             "cons", ("binary", "+", ("binary", "*", ("binary", "mod", A, B), C), ONE), TWO), C), A), B))

    def test_not(self):
        for operator, line in LINES.items():
            text = f"not a {operator} b"
            inner, outer = ("not", joined(operator, A, B)), joined(operator, ("not", A), B)
            self.assertEqual(e(text), outer if line < 4 else inner, text)
            text = f"a {operator} not b"
            if line < 4:
                self.assertEqual(e(text), joined(operator, A, ("not", B)))
            else:
                self.assert_refused_expression(text, text.index("not"))
        self.assertEqual(e("not not not a"), ("not", ("not", ("not", A))))
        self.assertEqual(e("not not a < b and not c"),
                         ("binary", "and", ("not", ("not", ("binary", "<", A, B))), ("not", C)))

    def test_one_comparison_only(self):
        self.assert_refused_expression("a = b = c", 6)
        self.assert_refused_expression("a < b = c", 6)
        self.assert_refused_expression("not a = b < c", 10)
        self.assertEqual(e("a = (b < c)"), ("binary", "=", A, ("binary", "<", B, C)))
        self.assertEqual(e("a = b and b = c"),
                         ("binary", "and", ("binary", "=", A, B), ("binary", "=", B, C)))


if __name__ == "__main__":
    unittest.main()
