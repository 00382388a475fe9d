import unittest

from quillrun.errors import RefusedChunk
from quillrun.tokens import KEYWORDS, tokenize

WORDS = ("data fun cell view act turn then true false not and or if else let in case of end "
         "num text bool list mod").split()
SIGNS = "( ) [ ] , ; | = < + - * / : ++ :: -> :=".split()


def told(chunk):
    return [(kind, value) for kind, value, _ in tokenize(chunk)]


class TokensTest(unittest.TestCase):
    def assert_refused(self, chunk, position):
        with self.assertRaises(RefusedChunk) as caught:
            tokenize(chunk)
        self.assertEqual(caught.exception.position, position)

    def test_keywords_are_in_their_order(self):
        self.assertEqual(KEYWORDS, tuple(WORDS))

    def test_every_keyword(self):
        for word in WORDS:
            self.assertEqual(tokenize(word), [("keyword", word, 0)])
            self.assertEqual(told(word + "_"), [("name", word + "_")])
            self.assertEqual(told(word + "1"), [("name", word + "1")])
            self.assertEqual(told(word[0].upper() + word[1:]), [("maker", word[0].upper() + word[1:])])

    def test_every_sign(self):
        for sign in SIGNS:
            self.assertEqual(tokenize(sign), [("sign", sign, 0)])
        self.assertEqual(told(" ".join(SIGNS)), [("sign", sign) for sign in SIGNS])

    def test_signs_of_two_characters_come_before_those_of_one(self):
        for chunk, signs in (("+++", "++ +"), ("++++", "++ ++"), (":::", ":: :"), (":::=", ":: :="), ("-->", "- ->"),
                             (":=:", ":= :"), ("->-", "-> -"), ("=:=", "= :="), ("[]", "[ ]"), ("::=", ":: =")):
            self.assertEqual(told(chunk), [("sign", sign) for sign in signs.split()])
        self.assertEqual(told("+ +"), [("sign", "+"), ("sign", "+")])

    def test_names_and_makers(self):
        self.assertEqual(tokenize("a aB_9z A Ab_C0 x__ Z_"),
                         [("name", "a", 0), ("name", "aB_9z", 2), ("maker", "A", 8), ("maker", "Ab_C0", 10),
                          ("name", "x__", 16), ("maker", "Z_", 20)])

    def test_words_and_numbers_directly_behind_one_another(self):
        self.assertEqual(tokenize("1a"), [("number", 1, 0), ("name", "a", 1)])
        self.assertEqual(tokenize("12Ab3 4"), [("number", 12, 0), ("maker", "Ab3", 2), ("number", 4, 6)])
        self.assertEqual(tokenize("a1"), [("name", "a1", 0)])
        self.assertEqual(tokenize("1not'x'f"), [("number", 1, 0), ("keyword", "not", 1), ("text", "x", 4),
                                               ("name", "f", 7)])

    def test_numbers(self):
        self.assertEqual(tokenize("0 007 10"), [("number", 0, 0), ("number", 7, 2), ("number", 10, 6)])
        self.assertEqual(told("9" * 18), [("number", 10 ** 18 - 1)])
        self.assertEqual(told("0" * 17 + "5"), [("number", 5)])

    def test_a_number_with_19_digits(self):
        self.assert_refused("1" * 19, 0)
        self.assert_refused("a + " + "0" * 19, 4)
        self.assert_refused("(" + "9" * 40 + "_", 1)

    def test_quoted_texts(self):
        for chunk, text in (("'a b'", "a b"), ("''", ""), ("' '", " "), ("'a''b'", "a'b"), ("''''", "'"),
                            ("''''''", "''"), ("'\n'", "\n"), ("'a\n\nb\n'", "a\n\nb\n"), ("'fun _ &'", "fun _ &"),
                            ("'''a'", "'a"), ("'a'''", "a'")):
            self.assertEqual(tokenize(chunk), [("text", text, 0)])
        self.assertEqual(tokenize("'a' 'b'"), [("text", "a", 0), ("text", "b", 4)])
        self.assertEqual(tokenize("'a'b''"), [("text", "a", 0), ("name", "b", 3), ("text", "", 4)])

    def test_a_quoted_text_without_an_end(self):
        for chunk, position in (("'", 0), ("a 'b", 2), ("'''", 0), ("'a''", 0), ("'a' 'b\n", 4), ("''a'", 3)):
            self.assert_refused(chunk, position)

    def test_characters_at_which_no_token_starts(self):
        for character in "_!\"#$&.>?@\\^`{}~":
            self.assert_refused(character, 0)
            self.assert_refused("ab " + character + " _", 3)
        self.assert_refused("1_", 1)
        self.assert_refused("a->b>c", 4)

    def test_the_first_refusal_counts(self):
        self.assert_refused("a _ '", 2)
        self.assert_refused("a ' _", 2)
        self.assert_refused("# " + "1" * 19, 0)

    def test_blanks(self):
        self.assertEqual(tokenize(""), [])
        self.assertEqual(tokenize(" \n\n  "), [])
        self.assertEqual(tokenize("\n a\n\nb "), [("name", "a", 2), ("name", "b", 5)])
        self.assertEqual(tokenize("a(b)"), [("name", "a", 0), ("sign", "(", 1), ("name", "b", 2), ("sign", ")", 3)])


if __name__ == "__main__":
    unittest.main()
