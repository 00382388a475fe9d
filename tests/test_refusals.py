import random
import unittest

import making
from quillrun.errors import RefusedChunk
from quillrun.parser import parse
from quillrun.printer import write_definition
from quillrun.tokens import KEYWORDS, tokenize
from recognizer import first_refused

SIGNS = "( ) [ ] , ; | = < + - * / : ++ :: -> :=".split()
WORDS = list(KEYWORDS) + SIGNS + ["a", "A", "1", "'t'"]
SAMPLES = (
    "data d = A | B ( ) | C ( num , list list d )",
    "fun f ( ) = 1 - 2",
    "fun f ( x , y ) = if a then b else c :: d",
    "cell c : list num = [ ] turn f",
    "cell c : d = let x = [ 1 , 2 ] in not x = 't' ++ y",
    "view v = case f ( a , 1 ) of [ ] -> b ; h :: t -> M ( ) and true end",
    "view v = case ( a ) of M -> 1 ; N ( ) -> 2 ; K ( x , y ) -> 3 end * 2",
    "act a ( ) = then 1",
    "act a ( x ) = c := 1 , d := a < 2 then M mod 3",
)


def refused_at(chunk):
    """The position of the refusal, or None."""
    try:
        parse(chunk)
    except RefusedChunk as refused:
        return refused.position
    return None


def word_of(token):
    kind, value, _ = token
    return value if kind in ("keyword", "sign") else kind.upper()


def expected_refusal(chunk):
    tokens = tokenize(chunk)
    index = first_refused([word_of(token) for token in tokens])
    if index is None:
        return None
    return len(chunk) if index == len(tokens) else tokens[index][2]


class RefusalTest(unittest.TestCase):
    def assert_refused(self, chunk, position):
        self.assertEqual(refused_at(chunk), position, chunk)


class GrammarRefusalTest(RefusalTest):
    def test_every_word_behind_every_beginning(self):
        for sample in SAMPLES:
            words = sample.split()
            for size in range(len(words) + 1):
                for word in WORDS:
                    chunk = " ".join(words[:size] + [word])
                    self.assert_refused(chunk, expected_refusal(chunk))

    def test_random_definitions_with_wrong_words(self):
        chance = random.Random(11)
        for _ in range(400):
            tokens = tokenize(write_definition(making.a_definition(chance)))
            words = ["'t'" if kind == "text" else str(value) for kind, value, _ in tokens]
            place = chance.randrange(len(words))
            words[place:place + chance.randrange(2)] = [chance.choice(WORDS)]
            chunk = " ".join(words)
            if len(words) <= 60:
                self.assert_refused(chunk, expected_refusal(chunk))

    def test_a_token_that_cannot_continue(self):
        for chunk, position in (
                ("1", 0), ("data A", 5), ("data d = b", 9), ("data d = A | ", 13), ("data d = A(1)", 11),
                ("fun F() = 1", 4), ("fun f = 1", 6), ("fun f(1) = 1", 6), ("fun f(x,) = 1", 8), ("fun f(x y) = 1", 8),
                ("fun f(num) = 1", 6), ("cell c = 1", 7), ("cell c : = 1", 9), ("cell c : list = 1", 14),
                ("cell c : num = 1 turn F", 22), ("cell c : num = 1 turn f g", 24), ("view v : num = 1", 7),
                ("view v() = 1", 6), ("view v = 1 turn f", 11), ("act a() = 1", 10), ("act a() = c = 1 then 1", 12),
                ("act a() = c := 1, then 1", 18), ("act a = then 1", 6), ("view v = f(1,)", 13), ("view v = [1,]", 12),
                ("view v = f(]", 11), ("view v = [)", 10), ("view v = ()", 10), ("view v = 1 2", 11),
                ("view v = case a of end", 19), ("view v = case a of a -> 1 end", 19),
                ("view v = case a of [a] -> 1", 20), ("view v = case a of [] -> 1 end", 27),
                ("view v = case a of [] -> 1; [] -> 2 end", 28), ("view v = case a of A -> 1; end", 27),
                ("view v = case a of A -> 1; [] -> 2 end", 27), ("view v = let A = 1 in 2", 13),
                ("view v = a b", 11), ("view v = - 1", 9), ("view v = A B", 11), ("view v = 'a' 'b'", 13),
                ("view v = 1; ", 10), ("view v = 1 | 2", 11), ("view v = a := 1", 11), ("view v = a -> 1", 11)):
            self.assert_refused(chunk, position)

    def test_what_stands_behind_the_refused_token_makes_no_difference(self):
        for behind in ("", "\n", " view v = 1", "((((((((((((((", " 1" * 300, " 'text'"):
            self.assert_refused("view v = 1 2" + behind, 11)

    def test_a_character_at_which_no_token_starts_is_told_first(self):
        self.assert_refused("view v = 1 2 _", 13)
        self.assert_refused("1 2 'a", 4)
        self.assert_refused("view v = " + "(" * 13 + " 1111111111111111111", 23)
        self.assert_refused("a " * 300 + "#", 600)

    def test_definitions_that_are_not_complete(self):
        for chunk in ("", "\n", "  \n ", "view", "view v =", "view v = 1 +", "view v = (1", "data d =", "fun f(",
                      "act a() = c := 1", "act a() = then", "cell c : num", "cell c : num = 1 turn",
                      "view v = case a of A -> 1", "view v = if a then b"):
            self.assert_refused(chunk, len(chunk))
            self.assert_refused(chunk + "\n \n", len(chunk) + 3)

    def test_exactly_one_definition(self):
        self.assert_refused("view v = 1 view w = 2", 11)
        self.assert_refused("view v = 1\n\nview w = 2", 12)
        self.assert_refused("data d = A\nview w = 2", 11)


class LimitTest(RefusalTest):
    def test_200_tokens(self):
        items = ", ".join(["1"] * 97)
        chunk = f"view v = [{items}]"
        self.assertEqual(len(tokenize(chunk)), 198)
        self.assert_refused(chunk, None)
        self.assert_refused(chunk + " + 1", None)
        self.assert_refused(chunk + " + 1 + 1", len(chunk) + 5)
        self.assert_refused(chunk + " + 1 1", len(chunk) + 5)

    def test_a_definition_that_is_not_complete_with_200_tokens(self):
        chunk = "view v = 1" + " + 1" * 98
        self.assertEqual(len(tokenize(chunk)), 200)
        self.assert_refused(chunk + "\n", len(chunk) + 1)
        self.assert_refused(chunk + " +", len(chunk) + 1)
        chunk = "view v = [" + "1, " * 98
        self.assertEqual(len(tokenize(chunk)), 200)
        self.assert_refused(chunk, len(chunk))
        self.assert_refused(chunk + "1]", len(chunk))

    def test_rows_of_words_that_lie_200_deep(self):
        for word in ("not", "if"):
            chunk = "view v =" + f" {word}" * 197
            self.assert_refused(chunk, len(chunk))
            self.assert_refused(chunk + f" {word}", len(chunk) + 1)
        chunk = "cell c :" + " list" * 197
        self.assert_refused(chunk, len(chunk))
        self.assert_refused(chunk + " list", len(chunk) + 1)
        self.assert_refused("view v = 1" + " :: 1" * 98, 10 + 98 * 5)

    def test_12_and_13_open_places_of_each_kind(self):
        for opening, closing in (("(", ")"), ("[", "]"), ("f(", ")"), ("A(", ")")):
            start = "view v = " + opening * 12
            self.assert_refused(start, len(start))
            self.assert_refused(start + opening, len(start) + len(opening) - 1)
            deep = None if opening == "(" else len(start + "1" + closing * 12)
            self.assert_refused(start + "1" + closing * 12, deep)
        start = "view v = " + "case " * 12
        self.assert_refused(start, len(start))
        self.assert_refused(start + "case", len(start))

    def test_open_places_of_different_kinds_count_together(self):
        start = "view v = " + "case (" * 4 + "f([" * 2
        self.assert_refused(start, len(start))
        self.assert_refused(start + "case", len(start))
        self.assert_refused(start + "(", len(start))
        self.assert_refused(start + "g(", len(start) + 1)
        self.assert_refused(start + "[", len(start))

    def test_places_in_patterns_count(self):
        start = "view v = " + "(" * 11 + "case a of "
        self.assert_refused(start + "[] -> 1", len(start))
        self.assert_refused(start + "A(x) -> 1", len(start) + 1)
        self.assert_refused(start + "A -> 1 end" + ")" * 11, None)
        start = "view v = " + "(" * 10 + "case a of "
        self.assert_refused(start + "[] -> 1; h :: t -> 2 end" + ")" * 10, None)
        self.assert_refused(start + "A(x) -> 1; B(x) -> 2 end" + ")" * 10, None)

    def test_a_case_is_open_until_its_end(self):
        start = "view v = " + "(" * 11 + "case a of A -> 1"
        self.assert_refused(start + "; B -> (", len(start) + 7)
        self.assert_refused(start + " end + (1)" + ")" * 11, None)

    def test_places_that_were_closed_again(self):
        for closed in ("(1)", "[]", "f(1)", "A()", "case a of A -> 1 end", "case a of [] -> 1; h :: t -> 2 end"):
            row = "[" + ", ".join([closed] * 12) + "]"
            self.assert_refused("view v = " + row, None)
        start = "view v = " + "(" * 11 + "(1) + (1) + "
        self.assert_refused(start + "[1]" + ")" * 11, None)
        self.assert_refused(start + "((", len(start) + 1)

    def test_the_limits_of_depth_are_told_at_the_end(self):
        self.assert_refused("view v = " + "not " * 11 + "a", None)
        self.assert_refused("view v = " + "not " * 12 + "a \n", 9 + 48 + 3)
        self.assert_refused("view v = 1" + " + 1" * 11, None)
        self.assert_refused("view v = 1" + " + 1" * 12, 10 + 48)
        self.assert_refused("view v = 1" + " :: 1" * 12, 10 + 60)
        self.assert_refused("view v = " + "not " * 12 + "a 1", 9 + 48 + 2)
        self.assert_refused("view v = " + "not " * 12 + "a +", 9 + 48 + 3)

    def test_each_form_counts_as_one_of_depth(self):
        for start, end in (("[1, ", "]"), ("f(", ", 1)"), ("A(", ")"), ("let a = ", " in 1"), ("let a = 1 in ", ""),
                           ("if ", " then 1 else 2"), ("if 1 then ", " else 2"), ("if 1 then 2 else ", ""),
                           ("case ", " of A -> 1 end"), ("case 1 of A -> 1; B -> ", " end"), ("not ", ""),
                           ("1 :: ", "")):
            fitting, deep = start * 11 + "1" + end * 11, start * 12 + "1" + end * 12
            self.assert_refused("view v = " + fitting, None)
            self.assert_refused("view v = " + deep, 9 + len(deep))
        inner = "not " * 10 + "1"
        for form in ("case a of [] -> {}; h :: t -> 2 end", "case a of [] -> 1; h :: t -> {} end", "({}) + 1",
                     "case {} of [] -> 1; h :: t -> 2 end", "({}) = 1", "1 and {}", "({}) :: []"):
            chunk = "view v = " + form.format(inner)
            self.assert_refused(chunk, None)
            chunk = "view v = " + form.format("not " + inner)
            self.assert_refused(chunk, len(chunk))

    def test_empty_lists_calls_and_makes_have_no_parts(self):
        for leaf in ("[]", "f()", "A", "A()", "'t'", "true"):
            self.assert_refused("view v = " + "not " * 11 + leaf, None)
            self.assert_refused("view v = " + "not " * 12 + leaf, 9 + 48 + len(leaf))

    def test_parentheses_do_not_count_as_depth(self):
        self.assert_refused("view v = " + "not (" * 11 + "(1)" + ")" * 11, None)

    def test_the_depth_in_every_definition(self):
        deep = "not " * 12 + "a"
        for chunk in (f"fun f() = {deep}", f"cell c : num = {deep}", f"cell c : num = {deep} turn f",
                      f"act a() = then {deep}", f"act a() = c := 1, d := {deep} then 1"):
            self.assert_refused(chunk, len(chunk))
            self.assert_refused(chunk.replace("not not", "not"), None)

    def test_12_and_13_times_list(self):
        for count, refused in ((12, False), (13, True)):
            kind = "list " * count + "d"
            for chunk in (f"cell c : {kind} = 1 turn f \n", f"data d = A({kind}) \n", f"data d = A | B(num, {kind}) | C"):
                self.assert_refused(chunk, len(chunk) if refused else None)


if __name__ == "__main__":
    unittest.main()
