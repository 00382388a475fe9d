import random
import unittest

import making
from quillrun.errors import RefusedChunk
from quillrun.parser import parse
from quillrun.printer import write_definition, write_kind
from quillrun.tokens import tokenize

CHUNKS = (
    "data d = A | B(num, list list d) | C(text, bool)",
    "fun f() = 1",
    "fun f(x, y) = f(x, g())",
    "cell c : list num = []",
    "cell c : d = A(1, B) turn f",
    "view v = 'it''s' ++ ''",
    "act a() = then true",
    "act a(x) = c := x, d := if x then 1 else 2 then let y = 1 in y",
    "view v = if a = b then a < b else not a",
    "view v = case x of [] -> 1; h :: t -> h end",
    "view v = case x of A -> 1; B(y, z) -> [y, z] end",
    "view v = 1 - 2 - (3 - 4) :: (a :: b) :: c",
    "view v = (a = b) = (c < d)",
    "view v = (not a) = b",
    "view v = not not (a or b) and (let a = 1 in a)",
    "view v = (a or b) and (c or d) or (if a then b else c) or e",
    "view v = (1 + 2) * (3 mod 4) / (5 * 6)",
    "view v = (case x of A -> 1 end)",
)


def expression(e):
    return write_definition(("view", "v", e))[len("view v = "):]


def without(chunk, *indexes):
    """The chunk without these tokens."""
    positions = [position for _, _, position in tokenize(chunk)]
    starts = positions + [len(chunk)]
    parts = [chunk[starts[k]:starts[k + 1]] for k in range(len(positions)) if k not in indexes]
    return " ".join(parts)


def pairs_of_parentheses(chunk):
    found, waiting = [], []
    for index, (kind, value, _) in enumerate(tokenize(chunk)):
        if (kind, value) == ("sign", "("):
            waiting.append(index)
        elif (kind, value) == ("sign", ")"):
            found.append((waiting.pop(), index))
    return found


def reads_as(chunk, tree):
    try:
        return parse(chunk) == tree
    except RefusedChunk:
        return False


class PrinterTest(unittest.TestCase):
    def assert_written_well(self, tree):
        chunk = write_definition(tree)
        self.assertEqual(parse(chunk), tree)
        for start, end in pairs_of_parentheses(chunk):
            self.assertFalse(reads_as(without(chunk, start, end), tree), chunk)
            if end == start + 1:
                continue
            self.assertFalse(reads_as(without(chunk, *range(start, end + 1)), tree), chunk)

    def test_every_form(self):
        for chunk in CHUNKS:
            self.assert_written_well(parse(chunk))

    def test_every_operator_in_every_operator(self):
        a, b = ("name", "a"), ("name", "b")
        inner = [("binary", operator, a, b) for operator in making.OPERATORS]
        inner += [("cons", a, b), ("not", a), ("if", a, b, a), ("let", "a", a, b), ("list", (a,)), ("call", "f", ()),
                  ("split", a, b, "h", "t", a), ("match", a, (("A", (), b),)), ("make", "A", ())]
        for first in inner:
            for second in inner:
                for operator in making.OPERATORS:
                    self.assert_written_well(("view", "v", ("binary", operator, first, second)))
                self.assert_written_well(("view", "v", ("cons", first, second)))
                self.assert_written_well(("view", "v", ("if", first, second, first)))
                self.assert_written_well(("view", "v", ("not", ("not", first))))
                self.assert_written_well(("cell", "c", (0, "num"), first, "f"))

    def test_random_definitions(self):
        chance = random.Random(2)
        for _ in range(400):
            tree = making.a_definition(chance)
            if len(tokenize(write_definition(tree))) <= 200:
                self.assert_written_well(tree)

    def test_no_parentheses_where_none_are_needed(self):
        for chunk in ("view v = a + b * c", "view v = (a)", "view v = ((a * b) + c)", "view v = a :: (b :: c)",
                      "view v = (a - b) - c", "view v = [(a), (if a then b else c)]", "view v = not (a = b)",
                      "view v = (not a) and (not (not b))", "view v = A()", "view v = case (a) of A() -> (b) end",
                      "view v = (case a of A -> 1 end) + 1", "data d = A() | B()", "view v = a or (b and c)"):
            self.assertNotIn("(", write_definition(parse(chunk)))

    def test_call_parentheses_stay(self):
        self.assertEqual(expression(("call", "f", ())).count("("), 1)
        self.assertEqual(expression(("make", "A", ())).count("("), 0)

    def test_texts(self):
        for text in ("", "'", "''", "a'b", "\n", "two\n lines", "fun f(", "a  b"):
            self.assert_written_well(("view", "v", ("text", text)))
            self.assert_written_well(("view", "v", ("list", (("text", text), ("text", text)))))

    def test_numbers(self):
        for number in (0, 7, 10 ** 18 - 1):
            self.assert_written_well(("view", "v", ("number", number)))

    def test_the_greatest_depth_and_places(self):
        for chunk in ("view v = " + "not " * 11 + "a", "view v = 1" + " - (1" * 11 + ")" * 11, "view v = " + "[" * 12 + "]" * 12,
                      "view v = [" + "1, " * 97 + "1]"):
            self.assert_written_well(parse(chunk))

    def test_a_written_definition_is_one_chunk(self):
        for chunk in CHUNKS:
            self.assertTrue(write_definition(parse(chunk))[0].islower())


class WriteKindTest(unittest.TestCase):
    def test_bases(self):
        for kind, written in (((0, "num"), "num"), ((0, "text"), "text"), ((0, "bool"), "bool"), ((0, "tree"), "tree"),
                              ((1, "num"), "list num"), ((3, "tree"), "list list list tree")):
            self.assertEqual(write_kind(kind), written)

    def test_variables(self):
        self.assertEqual(write_kind((0, 0)), "'0")
        self.assertEqual(write_kind((0, 12)), "'12")
        self.assertEqual(write_kind((2, 1)), "list list '1")


if __name__ == "__main__":
    unittest.main()
