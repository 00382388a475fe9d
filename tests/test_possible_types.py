import itertools
import random
import unittest

import texts
from possible_types import ALL, possible
from quillrun.kinds import is_instance
from quillrun.program import Program

BASE = texts.definitions("""data d = A | B(num, list d)
cell n : num = 1
fun same(x) = x
fun first(l) = case l of [] -> first(l); h :: t -> h end
fun wrap(x, y) = [[x, y]]
""")
# All instances, without variables, of the functions above.
TOLD = {"same": [((kind,), kind) for kind in ALL], "first": [(((levels + 1, base),), (levels, base)) for levels, base in ALL],
        "wrap": [((kind, kind), (kind[0] + 2, kind[1])) for kind in ALL]}
SMALL = [(levels, base) for levels in (0, 1) for base in ("num", "d")]


def a_leaf(chance, names):
    return chance.choice([("number", 1), ("list", ()), ("make", "A", ()), ("bool", True), ("text", "a")]
                         + [("name", name) for name in names] * 3)


def an_expression(chance, depth, names):
    """An expression that is often typed."""
    def e(more=()):
        return an_expression(chance, depth - 1, names + more)

    if depth == 1:
        return a_leaf(chance, names)
    form = chance.randrange(14)
    if form < 3:
        return ("list", tuple(e() for _ in range(chance.randrange(1, 3))))
    if form < 5:
        return ("cons", e(), e())
    if form == 5:
        return ("if", ("binary", chance.choice(("=", "<", "and")), e(), e()), e(), e())
    if form == 6:
        return ("let", "a", e(), e(("a",)))
    if form == 7:
        return ("split", e(), e(), "a", chance.choice(("a", "b", "b")), e(("a", "b")))
    if form == 8:
        return ("match", e(), (("A", (), e()), ("B", chance.choice((("a", "b"), ("a", "b"), ("a", "a"), ("a",))), e(("a", "b")))))
    if form == 9:
        return ("make", "B", (e(), e()))
    if form < 13:
        name, many = chance.choice((("same", 1), ("first", 1), ("wrap", 2), ("f", 2), ("f", 2)))
        return ("call", name, tuple(e() for _ in range(many)))
    return ("binary", chance.choice(("+", "=", "++", "mod")), e(), e())


class PossibleTypesTest(unittest.TestCase):
    def test_a_scheme_has_exactly_the_possible_types_as_instances(self):
        chance = random.Random(30)
        typed = general = 0
        for _ in range(500):
            e = an_expression(chance, chance.randrange(1, 4), ("x", "y", "n"))
            scheme = Program(BASE + [("fun", "f", ("x", "y"), e)]).schemes.get("f")
            typed += scheme is not None
            general += scheme is not None and any(isinstance(base, int) for _, base in scheme[0])
            for x, y, result in itertools.product(SMALL, SMALL, SMALL):
                told = {**TOLD, "f": [((x, y), result)]}
                expected = result in possible(e, {"x": x, "y": y}, told)
                found = scheme is not None and is_instance(((x, y), result), scheme)
                self.assertEqual(found, expected, (e, scheme, x, y, result))
        self.assertTrue(120 < typed < 400 and general > 80, (typed, general))


if __name__ == "__main__":
    unittest.main()
