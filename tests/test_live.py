import random
import unittest

import texts
from plain_engine import PlainEngine, problems, trees
from quillrun.code import definition_code
from quillrun.live import Engine, seen
from quillrun.program import Program


def told(program):
    """All that a program tells."""
    return (program.definitions, program.force, program.problems, program.schemes, program.cells, program.data,
            program.makers)


class EngineCase(unittest.TestCase):
    def setUp(self):
        self.engine = Engine()

    def assert_anew(self, chunks):
        """The engine tells what a program tells that is made anew."""
        program = Program(trees(chunks))
        self.assertEqual(told(self.engine.program), told(program))
        self.assertEqual(self.engine.codes, {one[1]: definition_code(one) for one in program.force
                                             if one[0] in ("fun", "view", "act")})
        self.assertEqual(self.engine.problems, problems(chunks, program))
        fresh = Engine()
        fresh.update(chunks)
        self.assertEqual((told(self.engine.program), self.engine.codes, self.engine.problems),
                         (told(fresh.program), fresh.codes, fresh.problems))

    def assert_update(self, chunks, read, judged, compiled):
        """What is done by one more update."""
        before = (self.engine.read, self.engine.judged, self.engine.compiled)
        given = list(chunks)
        self.assertIsNone(self.engine.update(given))
        self.assertEqual(given, list(chunks))
        given.append("view later = 1")
        after = (self.engine.read, self.engine.judged, self.engine.compiled)
        self.assertEqual(tuple(b - a for a, b in zip(before, after)), (read, judged, compiled))
        self.assert_anew(list(chunks))


N = "cell n : num = 1\n"
F = "fun f(x) = x + 1\n"
V = "view v = f(n)\n"
A = "act a() = n := 2 then v\n"
D = "data d = D | E(num)\n"


class UpdateTest(EngineCase):
    def test_the_empty_list(self):
        self.assertEqual((self.engine.read, self.engine.judged, self.engine.compiled), (0, 0, 0))
        self.assertEqual((self.engine.problems, self.engine.codes), ([], {}))
        self.assertEqual(told(self.engine.program), told(Program([])))
        self.assert_update([], 0, 0, 0)
        self.assert_update([F], 1, 1, 1)
        self.assert_update([], 0, 0, 0)
        self.assert_update([F], 1, 1, 1)

    def test_chunks_that_are_added(self):
        self.assert_update([N], 1, 1, 0)
        self.assert_update([N, F], 1, 1, 1)
        self.assert_update([V, N, F], 1, 1, 1)
        self.assert_update([V, A, N, D, F], 2, 2, 1)

    def test_the_same_list(self):
        for chunks in ([], [N, F, V, A, D], [F, F], ["fun"], ["view v = 1 + 'a'"], ["view v = w"]):
            self.engine.update(chunks)
            for _ in range(2):
                self.assert_update(chunks, 0, 0, 0)

    def test_chunks_that_are_removed(self):
        self.engine.update([N, F, V, A, D])
        self.assert_update([N, F, V, A], 0, 0, 0)
        self.assert_update([N, F, V], 0, 0, 0)
        self.assert_update([F], 0, 0, 0)
        self.assert_update([N, F, V, A], 3, 3, 2)

    def test_chunks_that_are_moved(self):
        self.engine.update([N, F, V, A, D])
        self.assert_update([D, V, A, F, N], 0, 0, 0)

    def test_chunks_that_are_replaced(self):
        self.engine.update([N, F, V])
        # Another text of the same tree is read, but not judged and not compiled.
        self.assert_update([N, "fun f( x ) = (x + 1)\n", V], 1, 0, 0)
        self.assert_update([N, "fun f(y) = y + 1\n", V], 1, 1, 1)
        self.assert_update([N, "fun f(y) = y + 2\n", "view v = f(n) + 1\n"], 2, 2, 2)

    def test_what_was_there_for_an_earlier_list_only_is_done_again(self):
        self.assert_update([F], 1, 1, 1)
        self.assert_update([N], 1, 1, 0)
        self.assert_update([F], 1, 1, 1)
        self.assert_update([N, F], 1, 1, 0)

    def test_a_refused_chunk_is_read_once(self):
        self.assert_update(["fun f(x = x\n", N], 2, 1, 0)
        self.assertEqual(self.engine.problems, [("refused", 8), None])
        self.assert_update([N, "fun f(x = x\n"], 0, 0, 0)
        self.assertEqual(self.engine.problems, [None, ("refused", 8)])
        self.assert_update([N, "fun f(x = x", "view w = 12 12 12\n", "view u = "], 3, 0, 0)
        self.assertEqual(self.engine.problems, [None, ("refused", 8), ("refused", 12), ("refused", 9)])

    def test_a_chunk_that_stands_there_twice(self):
        self.assert_update([F, F], 1, 0, 0)
        self.assertEqual(self.engine.problems, [("twice", "f"), ("twice", "f")])
        self.assert_update([F], 0, 1, 1)
        self.assert_update([F, F, F], 0, 0, 0)
        self.assert_update([F, N, "fun", "fun"], 2, 2, 1)

    def test_names_that_are_made_twice(self):
        self.engine.update([N, F, V])
        self.assert_update([N, F, V, "view f = 1\n"], 1, 0, 0)
        self.assertEqual(self.engine.problems, [None, ("twice", "f"), ("missing", "f"), ("twice", "f")])
        self.assert_update([N, F, V], 0, 2, 2)

    def test_problems_without_types_are_not_judged(self):
        self.assert_update(["view v = w\n"], 1, 0, 0)
        self.assert_update(["view v = w\n", "view w = v\n"], 1, 0, 0)
        self.assertEqual(self.engine.problems, [("ring",), ("ring",)])
        self.assert_update(["cell c : num = f(1)\n", "fun f(x) = n\n", N], 3, 2, 1)
        self.assertEqual(self.engine.problems, [("unsteady",), None, None])

    def test_what_has_such_a_problem_is_not_remembered(self):
        self.engine.update([F, "view v = f(1)\n"])
        self.assert_update(["view v = f(1)\n"], 0, 0, 0)
        self.assertEqual(self.engine.problems, [("missing", "f")])
        self.assert_update([F, "view v = f(1)\n"], 1, 2, 2)

    def test_what_is_not_typed_is_remembered(self):
        self.assert_update(["view v = 1 + 'a'\n"], 1, 1, 0)
        self.assertEqual(self.engine.problems, [("untyped",)])
        self.assert_update(["view v = 1 + 'a'\n", F], 1, 1, 1)
        self.assert_update(["view v = 1 + 'a'"], 1, 0, 0)
        self.assert_update(["view v = 1 + 2\n"], 1, 1, 1)


class SightTest(EngineCase):
    def test_a_function_with_the_same_scheme(self):
        self.engine.update([N, F, V])
        self.assert_update([N, "fun f(x) = x + 2\n", V], 1, 1, 1)

    def test_a_function_with_another_scheme(self):
        self.engine.update([N, F, V, "view other = n\n"])
        self.assert_update([N, "fun f(x) = x\n", V, "view other = n\n"], 1, 2, 1)
        self.assert_update([N, "fun f(x) = x ++ 'a'\n", V, "view other = n\n"], 1, 2, 1)
        self.assertEqual(self.engine.problems, [None, None, ("untyped",), None])
        self.assert_update([N, F, V, "view other = n\n"], 1, 2, 2)

    def test_a_view_with_the_same_and_with_another_type(self):
        self.engine.update(["view v = 1\n", "view w = [v]\n"])
        self.assert_update(["view v = 2\n", "view w = [v]\n"], 1, 1, 1)
        # The definition of w is equal, so that its code is there already.
        self.assert_update(["view v = 'a'\n", "view w = [v]\n"], 1, 2, 1)

    def test_a_cell_with_the_same_and_with_another_type(self):
        self.engine.update([N, "view w = [n]\n"])
        self.assert_update(["cell n : num = 2\n", "view w = [n]\n"], 1, 1, 0)
        self.assert_update(["cell n : text = 'a'\n", "view w = [n]\n"], 1, 2, 0)

    def test_a_name_that_becomes_another_thing(self):
        self.engine.update([N, "view w = [n]\n"])
        self.assert_update(["view n = 1\n", "view w = [n]\n"], 1, 2, 1)
        self.assert_update(["fun n() = 1\n", "view w = [n]\n"], 1, 2, 1)
        self.assertEqual(self.engine.problems, [None, ("untyped",)])

    def test_data_by_their_name_and_by_their_makers(self):
        users = ["cell c : d = case D of D -> E(1); E(k) -> D end\n", "fun g(x) = E(x)\n", "fun h(x) = 1\n",
                 "fun i(x) = case x of D -> 1; E(k) -> k end\n", "cell m : list d = []\n", "data e = F(d)\n"]
        self.engine.update([D, *users])
        self.assert_update(["data d = E(num) | D\n", *users], 1, 6, 0)
        self.assert_update(["data d = E(text) | D\n", *users], 1, 6, 0)
        # Data of another name with the same makers: what names the data misses them now.
        self.assert_update(["data d2 = E(text) | D\n", *users], 1, 3, 0)

    def test_several_definitions_in_one_component(self):
        one, other = "fun f(x) = if x < 1 then 0 else g(x - 1)\n", "fun g(x) = f(x)\n"
        self.assert_update([one, other, N], 3, 2, 2)
        self.assert_update([other, N, one], 0, 0, 0)
        self.assert_update([one, "fun g(x) = f(x) + 0\n", N], 1, 1, 1)
        self.assert_update([one, "fun g(x) = x\n", N], 1, 2, 1)
        self.assert_update([one, other, N], 1, 1, 1)

    def test_a_component_that_loses_a_member(self):
        self.engine.update(["data a = A(b) | Z\n", "data b = B(a)\n", "fun f(x) = B(x)\n"])
        self.assert_update(["data a = A(b) | Z\n", "data b = B(num)\n", "fun f(x) = B(x)\n"], 1, 3, 0)

    def test_other_things_that_change(self):
        self.engine.update([N, F, V, A, D])
        self.assert_update([N, F, V, A, "data d = D\n", "view x = 1\n", "fun y() = 1 + 'a'\n"], 3, 3, 1)

    def test_a_missing_name_of_one_component_only(self):
        self.engine.update([N, F, V, A])
        self.assert_update([F, V, A], 0, 0, 0)
        self.assertEqual(self.engine.problems, [None, ("missing", "n"), ("missing", "n")])
        # Nothing in force before was lost but these three.
        self.assert_update([N, F, V, A], 1, 3, 2)


class ListsTest(EngineCase):
    def test_lists_of_strings_that_are_made_at_random(self):
        chance = random.Random(49)
        for _ in range(40):
            self.engine = Engine()
            plain = PlainEngine()
            chunks = chance.sample(CHUNKS, chance.randrange(12))
            for _ in range(15):
                self.engine.update(chunks)
                plain.update(chunks)
                self.assertEqual((self.engine.read, self.engine.judged, self.engine.compiled), plain.done)
                self.assert_anew(chunks)
                chunks = changed(chance, chunks)


CHUNKS = [N, F, V, A, D, "cell n : text = 'a'\n", "fun f(x) = x\n", "fun f(x) = g(x)\n", "fun g(x) = f(x)\n", "fun g(x) = 'a'\n",
          "fun g(x) = x + n\n", "view v = n\n", "view w = v\n", "view v = w\n", "view w = [v, f(v)]\n", "act a() = then b\n",
          "act b(x) = n := x, m := [x] then w\n", "cell m : list num = [f(1)]\n", "cell m : list d = [D]\n",
          "cell k : d = D turn g\n", "cell k : num = 1 turn f\n", "fun h(x) = case x of D -> 1; E(k) -> k end\n",
          "data d = E(d) | D\n", "data e = F(d)\n", "data d = E(e)\n", "view v2 = F(D)\n", "fun\n", "view x = 'open\n", "5",
          "view v = f( n )\n", "cell n : num = 1 + 0\n", "data n = D\n"]


def changed(chance, chunks):
    """A list with some chunks added, removed, moved and repeated."""
    chunks = [chunk for chunk in chunks if chance.random() < 0.85]
    chunks += chance.sample(CHUNKS, chance.randrange(4))
    if chunks and chance.random() < 0.1:
        chunks.append(chance.choice(chunks))
    if chance.random() < 0.2:
        chance.shuffle(chunks)
    return chunks


NUM, TEXT = (0, "num"), (0, "text")


class SeenTest(unittest.TestCase):
    EARLIER = """cell n : num = 1
cell l : list d = []
fun f(x) = x
fun g(x, y) = x + n
view v = [n]
view any = []
data d = D | E(num, list d)
data zero = Zero
act a() = n := 1 then n
"""

    def assert_seen(self, text, *pairs):
        found = seen(texts.program(self.EARLIER), sorted(texts.definitions(text), key=lambda one: one[1]))
        self.assertEqual(found, list(pairs))
        self.assertIs(type(found), list)

    def test_what_the_trees_make_and_use(self):
        self.assert_seen("view w = 1\n", ("w", None))
        self.assert_seen("view w = f(n) + g(n, n)\n", ("f", ("fun", (((0, 0),), (0, 0)))), ("g", ("fun", ((NUM, (0, 0)), NUM))),
                         ("n", ("cell", NUM)), ("w", None))
        self.assert_seen("view w = [v, any]\n", ("any", ("view", ((), (1, 0)))), ("v", ("view", ((), (1, "num")))),
                         ("w", None))

    def test_cells(self):
        self.assert_seen("cell c : num = 1\n", ("c", None))
        self.assert_seen("cell c : list d = [] turn f\n", ("c", None),
                         ("d", ("data", (("D", ()), ("E", (NUM, (1, "d")))))), ("f", ("fun", (((0, 0),), (0, 0)))))
        self.assert_seen("view w = l\n", ("l", ("cell", (1, "d"))), ("w", None))

    def test_makers_and_the_makers_beside_them(self):
        makers = ("D", "E")
        self.assert_seen("fun k(x) = case x of D -> E(1, []); E(a, b) -> x end\n", ("D", ("d", (), makers)),
                         ("E", ("d", (NUM, (1, "d")), makers)), ("k", None))
        self.assert_seen("view w = Zero\n", ("Zero", ("zero", (), ("Zero",))), ("w", None))

    def test_makers_stand_before_names(self):
        self.assert_seen("fun b(x) = E(a, Zero)\n", ("E", ("d", (NUM, (1, "d")), ("D", "E"))),
                         ("Zero", ("zero", (), ("Zero",))), ("a", None), ("b", None))

    def test_data_make_their_makers(self):
        self.assert_seen("data e = Y(e, zero) | X(num)\n", ("X", None), ("Y", None), ("e", None),
                         ("zero", ("data", (("Zero", ()),))))

    def test_acts(self):
        self.assert_seen("act b(x) = n := a, l := [D] then x\n", ("D", ("d", (), ("D", "E"))), ("a", None), ("b", None),
                         ("l", ("cell", (1, "d"))), ("n", ("cell", NUM)))

    def test_what_is_not_in_force(self):
        self.assert_seen("view w = stranger + Strange\n", ("Strange", None), ("stranger", None), ("w", None))

    def test_local_names_are_not_used(self):
        self.assert_seen("fun k(n, v) = let l = n in case l of [] -> v; f :: g -> f(1) end\n",
                         ("f", ("fun", (((0, 0),), (0, 0)))), ("k", None))

    def test_each_name_once(self):
        self.assert_seen("view w = [n, n, w, D, D, n]\n", ("D", ("d", (), ("D", "E"))), ("n", ("cell", NUM)), ("w", None))

    def test_two_definitions_in_one_component(self):
        self.assert_seen("fun k(x) = m(x) + n\nfun m(x) = k(f(x))\n", ("f", ("fun", (((0, 0),), (0, 0)))), ("k", None),
                         ("m", None), ("n", ("cell", NUM)))
        self.assert_seen("data p = P(q) | End\ndata q = Q(p, d)\n", ("End", None), ("P", None), ("Q", None),
                         ("d", ("data", (("D", ()), ("E", (NUM, (1, "d")))))), ("p", None), ("q", None))


if __name__ == "__main__":
    unittest.main()
