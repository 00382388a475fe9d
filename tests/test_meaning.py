import unittest

import texts
from quillrun.meaning import Meaning
from texts import DIVISION, LARGE, STUCK, expression, fault, listed, made, value

PROGRAM = texts.program("""data color = Red | Green
data tree = Leaf | Node(tree, num, tree)
cell n : num = 5
cell bad : num = 1 / 0
cell s : text = 'a'
view v = n + 1
view w = v + v
view broken = bad + n
fun inc(x) = x + 1
fun add(x, y) = x + y
fun zero() = 0
fun off(x) = 1 / x
act up() = n := n + 1 then n
view bent = 1 + 'a'
""")
HELD = {"n": value(7), "bad": DIVISION, "s": value("ab")}


class RunCase(unittest.TestCase):
    def setUp(self):
        self.meaning = Meaning(PROGRAM, HELD)

    def assert_run(self, text, outcome, steps, reads=(), **local):
        found = self.meaning.run(expression(text), tuple(local), tuple(local.values()))
        self.assertEqual(found, (outcome, steps, list(reads)), text)
        self.assertIs(type(found[2]), list)
        if outcome[0] == "value":
            self.assertIs(type(found[0][1]), type(outcome[1]), text)

    def assert_value(self, text, expected, **local):
        self.assert_outcome(text, value(expected), **local)

    def assert_outcome(self, text, expected, **local):
        outcome, _, _ = self.meaning.run(expression(text), tuple(local), tuple(local.values()))
        self.assertEqual(outcome, expected, text)
        if expected[0] == "value":
            self.assertIs(type(outcome[1]), type(expected[1]), text)

    def assert_stuck(self, *rows, **local):
        for text in rows:
            self.assert_outcome(text, STUCK, **local)


class LiteralsAndNamesTest(RunCase):
    def test_literals(self):
        self.assert_run("12", value(12), 1)
        self.assert_run("'it''s'", value("it's"), 1)
        self.assert_run("true", value(True), 1)
        self.assert_run("false", value(False), 1)
        self.assert_run("[]", value(listed()), 1)
        self.assert_run("Red", value(made("Red")), 1)

    def test_local_names(self):
        self.assert_run("x", value(3), 1, x=3)
        self.assert_run("y", value("b"), 1, x=3, y="b")
        self.assert_run("x + y + x", value(8), 5, x=3, y=2)

    def test_of_two_with_one_name_the_nearest(self):
        found = self.meaning.run(expression("[x, y]"), ("x", "y", "x"), (1, 2, 3))
        self.assertEqual(found, (value(listed(3, 2)), 3, []))

    def test_local_names_hide_all_others(self):
        for name in ("n", "v", "inc", "up", "bent", "stranger"):
            self.assert_run(name, value(1), 1, **{name: 1})
        self.assert_run("let n = 1 in n", value(1), 3)

    def test_cells(self):
        self.assert_run("n", value(7), 1, ["n"])
        self.assert_run("s", value("ab"), 1, ["s"])
        self.assert_run("bad", DIVISION, 1, ["bad"])
        self.assert_run("n + n * n", value(56), 5, ["n"])

    def test_views(self):
        self.assert_run("v", value(8), 1, ["v", "n"])
        self.assert_run("w", value(16), 1, ["w", "v", "n"])
        self.assert_run("broken", DIVISION, 1, ["broken", "bad"])

    def test_other_names(self):
        for name in ("inc", "zero", "up", "color", "bent", "stranger"):
            self.assert_run(name, fault("missing", name), 1, [name])

    def test_reads_are_told_once_where_they_were_first_read(self):
        self.assert_run("[s, n, s, n]", value(listed("ab", 7, "ab", 7)), 5, ["s", "n"])
        self.assert_run("n + w + v", value(31), 5, ["n", "w", "v"])
        self.assert_run("inc(n) + v + inc(1)", value(18), 13, ["n", "inc", "v"])


class NumbersTest(RunCase):
    def test_sums_differences_and_products(self):
        self.assert_run("1 + 2", value(3), 3)
        self.assert_run("1 - 3", value(-2), 3)
        self.assert_run("4 * 5", value(20), 3)
        self.assert_run("x * y", value(-20), 3, x=4, y=-5)
        self.assert_run("2 + 3 * 4 - 1", value(13), 7)

    def test_quotients_round_toward_zero(self):
        for first, second, quotient, rest in [
                (7, 2, 3, 1), (-7, 2, -3, -1), (7, -2, -3, 1), (-7, -2, 3, -1), (6, 2, 3, 0), (-6, 2, -3, 0),
                (6, -3, -2, 0), (1, 2, 0, 1), (-1, 2, 0, -1), (1, -2, 0, 1), (-1, -2, 0, -1), (0, 5, 0, 0), (0, -5, 0, 0),
                (-1, 1, -1, 0), (1, -1, -1, 0), (-1, -1, 1, 0), (-5, 1, -5, 0), (5, -1, -5, 0),
                (10 ** 29 + 1, 10, 10 ** 28, 1), (-(10 ** 29) - 1, 10, -(10 ** 28), -1), (5, 5, 1, 0), (3, 5, 0, 3)]:
            self.assert_value("x / y", quotient, x=first, y=second)
            self.assert_value("x mod y", rest, x=first, y=second)
            self.assertEqual(first, second * quotient + rest)

    def test_division_by_zero(self):
        self.assert_run("1 / 0", DIVISION, 3)
        self.assert_run("1 mod 0", DIVISION, 3)
        self.assert_run("0 / 0", DIVISION, 3)
        self.assert_run("0 mod 0", DIVISION, 3)
        self.assert_run("x / y", DIVISION, 3, x=-4, y=0)

    def test_less(self):
        self.assert_value("1 < 2", True)
        self.assert_value("2 < 2", False)
        self.assert_value("3 < 2", False)
        self.assert_value("x < y", True, x=-5, y=-4)

    def test_values_of_other_kinds_are_stuck(self):
        for operator in ("+", "-", "*", "/", "mod", "<"):
            for other in ("'a'", "true", "[]", "[1]", "Red", "false"):
                self.assert_stuck(f"1 {operator} {other}", f"{other} {operator} 1", f"{other} {operator} {other}")

    def test_a_stuck_operator_is_no_division_by_zero(self):
        self.assert_stuck("'a' / 0", "true mod 0", "[] / 0", "0 / false")

    def test_both_operands_are_run_before_an_operator_is_stuck(self):
        self.assert_run("'a' + n", STUCK, 3, ["n"])
        self.assert_run("'a' + bad", DIVISION, 3, ["bad"])
        self.assert_run("1 ++ bad", DIVISION, 3, ["bad"])
        self.assert_run("1 :: bad", DIVISION, 3, ["bad"])
        self.assert_run("true < (1 / 0)", DIVISION, 5)


class LargeTest(RunCase):
    MOST = 2 ** 100 - 1

    def test_numbers(self):
        self.assert_value("x + 0", self.MOST, x=self.MOST)
        self.assert_outcome("x + 1", LARGE, x=self.MOST)
        self.assert_outcome("x + 2", LARGE, x=self.MOST)
        self.assert_value("x - 1", -self.MOST, x=1 - self.MOST)
        self.assert_outcome("x - 1", LARGE, x=-self.MOST)
        self.assert_outcome("x - 2", LARGE, x=-self.MOST)
        self.assert_value("x * 2", 2 ** 100 - 2, x=2 ** 99 - 1)
        self.assert_outcome("x * 2", LARGE, x=2 ** 99)
        self.assert_outcome("x * y", LARGE, x=2 ** 50, y=-(2 ** 50))
        self.assert_value("x * y", -(2 ** 99), x=2 ** 50, y=-(2 ** 49))

    def test_quotients_and_remainders_of_large_numbers(self):
        self.assert_outcome("x / 1", LARGE, x=2 ** 100)
        self.assert_value("x / 2", 2 ** 99, x=2 ** 100)
        self.assert_outcome("x mod y", LARGE, x=-(2 ** 100), y=2 ** 101)
        self.assert_value("x mod 7", 2 ** 100 % 7, x=2 ** 100)

    def test_texts(self):
        self.assert_value("x ++ 'b'", "a" * 998 + "b", x="a" * 998)
        self.assert_outcome("x ++ 'b'", LARGE, x="a" * 999)
        self.assert_outcome("x ++ 'bc'", LARGE, x="a" * 999)
        self.assert_value("'' ++ x", "a" * 999, x="a" * 999)
        self.assert_outcome("'' ++ x", LARGE, x="a" * 1000)

    def test_the_size_of_lists(self):
        self.assert_value("[x]", listed("a" * 998), x="a" * 998)
        self.assert_outcome("[x, 1]", LARGE, x="a" * 998)
        self.assert_outcome("[x]", LARGE, x="a" * 999)
        self.assert_value("1 :: x", ("list", (1,) * 999), x=("list", (1,) * 998))
        self.assert_outcome("1 :: x", LARGE, x=("list", (1,) * 999))
        self.assert_outcome("x :: x", LARGE, x=("list", (1,) * 500))

    def test_the_size_of_makes(self):
        self.assert_value("Node(x, 1)", made("Node", "a" * 997, 1), x="a" * 997)
        self.assert_outcome("Node(x, 1)", LARGE, x="a" * 998)
        self.assert_outcome("Node(x, 1)", LARGE, x="a" * 999)

    def test_the_depth(self):
        for levels, is_large in ((37, False), (38, False), (39, True), (40, True)):
            inside = 1
            for _ in range(levels):
                inside = listed(inside)
            for text, expected in [("[x]", listed(inside)), ("Red(x)", made("Red", inside)),
                                   ("[1, x]", listed(1, inside)), ("x :: []", listed(inside))]:
                self.assert_outcome(text, LARGE if is_large else value(expected), x=inside)

    def test_only_results_are_looked_at(self):
        huge = 2 ** 200
        self.assert_value("x", huge, x=huge)
        self.assert_value("[x]", listed(huge), x=huge)
        self.assert_value("x = x", True, x=huge)
        self.assert_value("x - x", 0, x=huge)
        self.assert_value("x < 1", False, x=huge)
        long_text = "'" + "a" * 1500 + "'"
        self.assert_value(long_text, "a" * 1500)
        self.assert_value(f"if {long_text} = '' then 1 else 2", 2)
        self.assert_value("let y = x in y", "a" * 1500, x="a" * 1500)

    def test_a_large_result_ends_the_run(self):
        self.assert_run("[x + 1, n]", LARGE, 4, x=self.MOST)


class TextsAndBooleansTest(RunCase):
    def test_joining(self):
        self.assert_run("'a' ++ 'bc'", value("abc"), 3)
        self.assert_value("'' ++ ''", "")
        for other in ("1", "true", "[]", "['a']", "Red"):
            self.assert_stuck(f"'a' ++ {other}", f"{other} ++ 'a'", f"{other} ++ {other}")

    def test_equal(self):
        for text in ("1 = 1", "'a' = 'a'", "true = true", "[] = []", "[1, [2]] = [1, [2]]", "Red = Red",
                     "Node(1, 'a') = Node(1, 'a')"):
            self.assert_run(text, value(True), self.meaning.run(expression(text), (), ())[1])
        for text in ("1 = 2", "'a' = 'b'", "true = false", "[] = [[]]", "[1, 2] = [2, 1]", "Red = Green",
                     "Node(1) = Node(2)"):
            self.assert_value(text, False)

    def test_equal_is_never_stuck(self):
        kinds = ("1", "0", "'1'", "true", "false", "[]", "[1]", "[true]", "Red", "Node(1)", "''", "'Red'")
        for place, first in enumerate(kinds):
            for other, second in enumerate(kinds):
                self.assert_value(f"{first} = {second}", place == other)

    def test_not(self):
        self.assert_run("not true", value(False), 2)
        self.assert_run("not not true", value(True), 3)
        self.assert_value("not (1 < 0)", True)
        self.assert_stuck("not 1", "not 0", "not 'a'", "not []", "not Red")

    def test_and(self):
        self.assert_run("false and n", value(False), 2)
        self.assert_run("false and bad", value(False), 2)
        self.assert_run("true and false", value(False), 3)
        self.assert_run("true and true", value(True), 3)
        self.assert_run("true and bad", DIVISION, 3, ["bad"])

    def test_or(self):
        self.assert_run("true or n", value(True), 2)
        self.assert_run("true or bad", value(True), 2)
        self.assert_run("false or true", value(True), 3)
        self.assert_run("false or false", value(False), 3)
        self.assert_run("false or bad", DIVISION, 3, ["bad"])

    def test_the_second_part_is_the_outcome_whatever_its_kind(self):
        for text, expected in [("5", 5), ("'a'", "a"), ("[]", listed()), ("Red", made("Red"))]:
            self.assert_run(f"true and {text}", value(expected), 3)
            self.assert_run(f"false or {text}", value(expected), 3)
        self.assert_run("true and n", value(7), 3, ["n"])
        self.assert_run("[true and 1, false or 2]", value(listed(1, 2)), 7)
        self.assert_run("[true or 1, false and 2]", value(listed(True, False)), 5)

    def test_a_first_part_of_another_kind_is_stuck_at_once(self):
        for first in ("1", "0", "'a'", "''", "[]", "Red"):
            self.assert_run(f"{first} and n", STUCK, 2)
            self.assert_run(f"{first} or n", STUCK, 2)

    def test_a_fault_in_the_first_part(self):
        self.assert_run("bad and n", DIVISION, 2, ["bad"])
        self.assert_run("bad or n", DIVISION, 2, ["bad"])


class IfAndLetTest(RunCase):
    def test_if_runs_one_branch(self):
        self.assert_run("if true then 1 else n", value(1), 3)
        self.assert_run("if false then bad else n", value(7), 3, ["n"])
        self.assert_run("if n < 8 then s else bad", value("ab"), 5, ["n", "s"])
        self.assert_run("if bad then 1 else n", DIVISION, 2, ["bad"])

    def test_another_condition_is_stuck(self):
        for condition in ("1", "0", "'a'", "[]", "Red"):
            self.assert_run(f"if {condition} then n else s", STUCK, 2)

    def test_let(self):
        self.assert_run("let x = 2 in x * x", value(4), 5)
        self.assert_run("let x = bad in 1", DIVISION, 2, ["bad"])
        self.assert_run("let x = n in 1", value(1), 3, ["n"])
        self.assert_run("let n = n + 1 in n", value(8), 5, ["n"])

    def test_names_hide_one_another(self):
        self.assert_run("let x = 1 in let x = x + 1 in x * 10", value(20), 9)
        self.assert_run("(let x = 1 in x) + x", value(6), 5, x=5)
        self.assert_run("let y = x in let x = 2 in x + y", value(7), 7, x=5)
        self.assert_run("(let n = 1 in n) + n", value(8), 5, ["n"])


class ListsTest(RunCase):
    def test_lists(self):
        self.assert_run("[1, 'a', true]", value(listed(1, "a", True)), 4)
        self.assert_run("[[], [n]]", value(listed(listed(), listed(7))), 4, ["n"])
        self.assert_run("[n, bad, s]", DIVISION, 3, ["n", "bad"])

    def test_cons(self):
        self.assert_run("1 :: []", value(listed(1)), 3)
        self.assert_run("1 :: 'a' :: [[]]", value(listed(1, "a", listed())), 6)
        self.assert_run("bad :: s", DIVISION, 2, ["bad"])
        self.assert_stuck("1 :: 2", "[] :: 'a'", "1 :: true", "[1] :: Red", "1 :: Node([])")

    def test_the_choice_of_a_list(self):
        self.assert_run("case [] of [] -> n; h :: t -> s end", value(7), 3, ["n"])
        self.assert_run("case [1, 2, 3] of [] -> n; h :: t -> [h, t] end", value(listed(1, listed(2, 3))), 8)
        self.assert_run("case [1] of [] -> n; h :: t -> t end", value(listed()), 4)
        self.assert_run("case bad of [] -> n; h :: t -> s end", DIVISION, 2, ["bad"])

    def test_one_name_twice_means_the_others(self):
        self.assert_run("case [1, 2] of [] -> 0; h :: h -> h end", value(listed(2)), 5)

    def test_the_names_hide_others_in_the_last_expression_only(self):
        self.assert_run("case [1] of [] -> 0; n :: x -> [n, x] end", value(listed(1, listed())), 6, x=5)
        self.assert_run("case [] of [] -> [h, t]; h :: t -> 0 end", value(listed(1, 2)), 5, h=1, t=2)
        self.assert_run("[case [1] of [] -> 0; h :: t -> h end, h]", value(listed(1, 9)), 6, h=9)

    def test_what_is_no_list_is_stuck(self):
        for text in ("1", "'a'", "''", "true", "Red", "Node([])"):
            self.assert_run(f"case {text} of [] -> n; h :: t -> s end", STUCK, 3 if "(" in text else 2)


class MakesAndMatchesTest(RunCase):
    def test_makes(self):
        self.assert_run("Node(Leaf, n, Leaf)", value(made("Node", made("Leaf"), 7, made("Leaf"))), 4, ["n"])
        self.assert_run("Node(1, bad, n)", DIVISION, 3, ["bad"])

    def test_makers_are_not_read_and_need_not_be_made(self):
        self.assert_run("Stranger(1)", value(made("Stranger", 1)), 2)
        self.assert_run("Red(1, 2)", value(made("Red", 1, 2)), 3)
        self.assert_run("case Stranger(3) of Stranger(x) -> x end", value(3), 4)

    def test_matches(self):
        self.assert_run("case Red of Red -> n; Green -> s end", value(7), 3, ["n"])
        self.assert_run("case Green of Red -> n; Green -> s end", value("ab"), 3, ["s"])
        self.assert_run("case Node(1, 2, 3) of Leaf -> 0; Node(a, b, c) -> [c, a, b] end", value(listed(3, 1, 2)), 9)
        self.assert_run("case bad of Red -> n end", DIVISION, 2, ["bad"])

    def test_several_arms_of_one_maker(self):
        self.assert_run("case Red of Green -> 0; Red -> 1; Red -> 2 end", value(1), 3)
        self.assert_run("case Node(5) of Node(x) -> x; Node(y) -> y + 1 end", value(5), 4)
        self.assert_stuck("case Node(5) of Node -> 0; Node(x) -> x end")
        self.assert_value("case Node(5) of Node(x) -> x; Node -> 0 end", 5)

    def test_names_of_arms(self):
        self.assert_run("case Node(1, 2) of Node(x, x) -> x end", value(2), 5)
        self.assert_run("[case Node(1) of Node(x) -> x end, x]", value(listed(1, 9)), 6, x=9)
        self.assert_run("case Node(1) of Node(n) -> n end", value(1), 4)

    def test_stuck_matches(self):
        for text in ("1", "'Red'", "true", "[]", "[Red]"):
            self.assert_stuck(f"case {text} of Red -> n; Green -> s end")
        self.assert_run("case Leaf of Red -> n; Green -> s end", STUCK, 2)
        self.assert_run("case Red(1) of Red -> n end", STUCK, 3)
        self.assert_run("case Red of Red(x) -> n end", STUCK, 2)
        self.assert_run("case Node(1, 2) of Node(x) -> n end", STUCK, 4)
        self.assert_run("case Node(1) of Node(x, y) -> n end", STUCK, 3)


class FaultsTest(RunCase):
    def test_after_a_fault_nothing_more_is_run(self):
        for text, steps, reads in [
                ("bad + n", 2, ["bad"]), ("n + bad + s", 4, ["n", "bad"]), ("[bad, n]", 2, ["bad"]),
                ("bad = n", 2, ["bad"]), ("add(bad, n)", 2, ["bad"]), ("let x = 1 in let y = bad in n", 4, ["bad"]),
                ("case [bad] of [] -> n; h :: t -> s end", 3, ["bad"]), ("not bad", 2, ["bad"]),
                ("if true then bad else n", 3, ["bad"]), ("(1 / 0) + n", 4, [])]:
            self.assert_run(text, DIVISION, steps, reads)
        self.assert_run("stranger + n", fault("missing", "stranger"), 2, ["stranger"])

    def test_a_fault_within_a_call(self):
        self.assert_run("[n, off(0), s]", DIVISION, 7, ["n", "off"])


class LookTest(RunCase):
    def test_look(self):
        self.assertEqual(self.meaning.look("n"), (value(7), 0, ["n"]))
        self.assertEqual(self.meaning.look("bad"), (DIVISION, 0, ["bad"]))
        self.assertEqual(self.meaning.look("v"), (value(8), 0, ["v", "n"]))
        self.assertEqual(self.meaning.look("w"), (value(16), 0, ["w", "v", "n"]))
        self.assertEqual(self.meaning.look("broken"), (DIVISION, 0, ["broken", "bad"]))

    def test_what_tells_nothing(self):
        for name in ("inc", "up", "color", "Red", "bent", "stranger"):
            self.assertEqual(self.meaning.look(name), (fault("missing", name), 0, [name]))

    def test_what_is_returned_can_be_changed(self):
        self.meaning.look("w")[2].clear()
        self.meaning.run(expression("w"), (), ())[2].append("x")
        self.assertEqual(self.meaning.look("w"), (value(16), 0, ["w", "v", "n"]))

    def test_what_the_cells_hold_is_not_kept(self):
        held = dict(HELD)
        meaning = Meaning(PROGRAM, held)
        held["n"] = value(100)
        self.assertEqual(meaning.look("v"), (value(8), 0, ["v", "n"]))
        self.assertEqual(held, {**HELD, "n": value(100)})


if __name__ == "__main__":
    unittest.main()
