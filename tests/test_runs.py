import random
import unittest

import texts
from plain_meaning import PlainRun
from quillrun.code import code_of
from quillrun.machine import call_code, run_code
from quillrun.meaning import Meaning
from quillrun.values import same
from texts import listed, made, value

NAMES = ("x", "y", "n", "l", "v", "w", "big")
FUNCTIONS = (("f", 1), ("g", 2), ("h", 1), ("down", 1), ("many", 1))
BASE = """cell n : num = 1
cell l : list num = []
cell bad : num = 1 / 0
data d = A | B(num, d) | C(list num)
fun down(k) = if k < 1 then 0 else 1 + down(k - 1)
fun many(k) = if k < 1 then 1 else many(k - 1) + many(k - 1)
view big = 126765060022822940 * 9999999999999
"""
OPERATORS = ("+", "-", "*", "/", "mod", "++", "=", "<", "and", "or")
VALUES = (0, 1, -7, 12, True, False, "", "ab", listed(), listed(1, 2), listed(listed(5)), made("A"), made("B", 1, made("A")),
          2 ** 99, "a" * 700, ("list", (3,) * 600))


def a_leaf(chance):
    return chance.choice([("number", chance.randrange(15)), ("text", "ab"), ("bool", chance.random() < 0.5), ("list", ()),
                          ("make", "A", ())] + [("name", chance.choice(NAMES + ("bad", "gone", "f")[:chance.randrange(4)]))
                                                for _ in range(4)])


def an_expression(chance, depth):
    def e():
        return an_expression(chance, depth - 1)

    def name():
        return chance.choice(("x", "y", "z", "n"))

    if depth == 1 or chance.random() < 0.1:
        return a_leaf(chance)
    form = chance.randrange(11)
    if form < 2:
        return ("binary", chance.choice(OPERATORS), e(), e())
    if form == 2:
        condition = chance.choice((("binary", chance.choice(("<", "=")), e(), e()), ("not", e()), e()))
        return ("if", condition, e(), e())
    if form == 3:
        return ("let", name(), e(), e())
    if form == 4:
        return ("list", tuple(e() for _ in range(chance.randrange(3))))
    if form == 5:
        return ("cons", e(), chance.choice((("name", "l"), ("list", ()), e())))
    if form == 6:
        return ("split", chance.choice((("name", "l"), ("list", (e(),)), e())), e(), name(), name(), e())
    if form == 7:
        arms = [("A", (), e()), ("B", (name(), name()), e()), ("C", (name(),), e()), ("B", (name(),), e())]
        chance.shuffle(arms)
        return ("match", chance.choice((a_make(chance, e), e())), tuple(arms[:chance.randrange(1, 5)]))
    if form == 8:
        return a_make(chance, e)
    name, count = chance.choice(FUNCTIONS)
    return ("call", name, tuple(e() for _ in range(count if chance.random() < 0.9 else count + 1)))


def a_make(chance, e):
    maker, count = chance.choice((("A", 0), ("B", 2), ("C", 1)))
    return ("make", maker, tuple(e() for _ in range(count)))


def a_program(chance):
    """A program whose definitions are in force whatever their types are."""
    rows = [("fun", "f", ("x",), an_expression(chance, 3)), ("fun", "g", ("x", "y"), an_expression(chance, 3)),
            ("fun", "h", ("x",), ("if", ("binary", "<", ("name", "x"), ("number", 1)), an_expression(chance, 2),
                                  ("call", "h", (("binary", "-", ("name", "x"), ("number", 1)),)))),
            ("view", "v", an_expression(chance, 3)), ("view", "w", an_expression(chance, 3))]

    def judge(found, _):
        return {definition[1]: ((), (0, "num")) for definition in found if definition[0] in ("fun", "view", "act")}
    return texts.Program(texts.definitions(BASE) + rows, judge)


class RunsTest(unittest.TestCase):
    def assert_same(self, found, expected):
        self.assertEqual(found[0], expected[0])
        self.assertTrue(found[0] == "fault" or same(found[1], expected[1]), (found, expected))

    def test_meaning_and_machine_against_the_words_of_the_document(self):
        chance = random.Random(33)
        met = {}
        for round_number in range(400):
            program = a_program(chance)
            held = {"n": value(chance.choice((3, 12))), "l": value(listed(1, 5)), "bad": ("fault", ("division",))}
            held = {name: held[name] for name in program.cells}
            meaning = Meaning(program, held)
            for _ in range(6):
                e = an_expression(chance, chance.randrange(1, 6))
                values = (chance.choice(VALUES), chance.choice(VALUES))
                plain = PlainRun(program, held)
                expected = plain.outcome(e, ("x", "y"), values)
                outcome, steps, reads = meaning.run(e, ("x", "y"), values)
                met[outcome[1][0] if outcome[0] == "fault" else "value"] = True
                self.assert_same(outcome, expected)
                self.assertEqual((steps, reads), (plain.steps, plain.reads))
                found = run_code(program, held, code_of(e, ("x", "y")), values)
                self.assert_same(found[0], expected)
                self.assertEqual(found[2], plain.reads)
                self.assertLessEqual(found[1], 3 * steps + 2)
        self.assertEqual(sorted(met), ["deep", "division", "large", "long", "missing", "stuck", "value"])

    def test_calls_from_outside(self):
        chance = random.Random(38)
        for _ in range(200):
            program = a_program(chance)
            held = {"n": value(3), "l": value(listed(1, 5)), "bad": ("fault", ("division",))}
            held = {name: held[name] for name in program.cells}
            for name, count in FUNCTIONS:
                values = [chance.choice(VALUES) for _ in range(count)]
                plain = PlainRun(program, held)
                expected = plain.outcome_of_call(name, values)
                outcome, steps, reads = Meaning(program, held).call(name, values)
                self.assert_same(outcome, expected)
                self.assertEqual((steps, reads), (plain.steps, plain.reads))
                found = call_code(program, held, name, values)
                self.assert_same(found[0], expected)
                self.assertEqual(found[2], plain.reads)


if __name__ == "__main__":
    unittest.main()
