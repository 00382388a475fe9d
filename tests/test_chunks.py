import unittest

from quillrun.chunks import chunks


class ChunksTest(unittest.TestCase):
    def test_the_empty_text(self):
        self.assertEqual(chunks(""), [])

    def test_texts_without_a_chunk(self):
        for text in ("\n", " ", " a", "\n\n", "\n a\n  b", " a\n b\n"):
            self.assertEqual(chunks(text), [])

    def test_one_chunk(self):
        for text in ("a", "a\n", "a b\n", "a\n b\n", "a\n\n\n b\n\n", ")"):
            self.assertEqual(chunks(text), [(0, text)])

    def test_a_chunk_extends_to_the_next_one(self):
        self.assertEqual(chunks("a\nb"), [(0, "a\n"), (2, "b")])
        self.assertEqual(chunks("a\nb\n"), [(0, "a\n"), (2, "b\n")])
        self.assertEqual(chunks("ab\n c\n\nd\n\n e"), [(0, "ab\n c\n\n"), (7, "d\n\n e")])

    def test_what_is_before_the_first_chunk_belongs_to_none(self):
        self.assertEqual(chunks("\n x\n\na\nb"), [(5, "a\n"), (7, "b")])
        self.assertEqual(chunks(" a\nb"), [(3, "b")])

    def test_a_space_before_a_word_does_not_start_a_chunk(self):
        self.assertEqual(chunks("a b c\n d"), [(0, "a b c\n d")])

    def test_a_line_that_is_empty_at_the_end(self):
        self.assertEqual(chunks("a\n\n"), [(0, "a\n\n")])
        self.assertEqual(chunks("a\n "), [(0, "a\n ")])

    def test_quotes_make_no_difference(self):
        self.assertEqual(chunks("a 'x\ny'"), [(0, "a 'x\n"), (5, "y'")])

    def test_every_character_that_is_not_a_blank_starts_a_chunk(self):
        for code in range(33, 127):
            self.assertEqual(chunks(" a\n" + chr(code)), [(3, chr(code))])

    def test_every_call_returns_a_new_list(self):
        chunks("a\nb").clear()
        self.assertEqual(chunks("a\nb"), [(0, "a\n"), (2, "b")])


if __name__ == "__main__":
    unittest.main()
