import random
import unittest

from quillrun.files import File


class FileCase(unittest.TestCase):
    def setUp(self):
        self.file = File()

    def assert_file(self, content, pending):
        self.assertEqual((self.file.content(), self.file.pending()), (content, pending))


class StepsTest(FileCase):
    def test_an_empty_file(self):
        self.assert_file([], 0)
        self.assertIsNone(self.file.lose(3))
        self.assert_file([], 0)

    def test_without_a_limit(self):
        self.assertEqual(self.file.write([1, 2, 3], None), 3)
        self.assert_file([1, 2, 3], 3)
        self.assertEqual(self.file.shorten(1, None), 1)
        self.assert_file([1], 4)
        self.assertEqual(self.file.write([9], None), 1)
        self.assert_file([1, 9], 5)
        self.assertEqual(self.file.flush(None), 1)
        self.assert_file([1, 9], 0)

    def test_write_with_enough_and_with_fewer_steps(self):
        self.assertEqual(self.file.write([1, 2, 3], 5), 3)
        self.assertEqual(self.file.write([4, 5, 6], 3), 3)
        self.assertEqual(self.file.write([7, 8, 9], 2), 2)
        self.assertEqual(self.file.write([10, 11], 0), 0)
        self.assert_file([1, 2, 3, 4, 5, 6, 7, 8], 8)

    def test_write_nothing(self):
        for steps in (None, 0, 4):
            self.assertEqual(self.file.write([], steps), 0)
        self.assert_file([], 0)

    def test_the_others_are_not_done_without_a_step(self):
        self.file.write([1, 2, 3], None)
        self.assertEqual(self.file.shorten(1, 0), 0)
        self.assertEqual(self.file.flush(0), 0)
        self.assert_file([1, 2, 3], 3)
        self.assertEqual(self.file.shorten(1, 1), 1)
        self.assert_file([1], 4)
        self.assertEqual(self.file.flush(1), 1)
        self.assert_file([1], 0)
        self.assertEqual((self.file.shorten(0, 7), self.file.flush(7)), (1, 1))
        self.assert_file([], 0)

    def test_a_flush_without_pending_steps_is_a_step(self):
        self.assertEqual((self.file.flush(0), self.file.flush(1), self.file.flush(None)), (0, 1, 1))
        self.assert_file([], 0)

    def test_a_shorter_file_stays_as_it_is(self):
        self.file.write([1, 2], None)
        for size in (2, 3, 1000):
            self.assertEqual(self.file.shorten(size, 5), 1)
        self.assert_file([1, 2], 5)
        self.file.write([3], None)
        self.file.lose(6)
        self.assert_file([1, 2, 3], 0)


class LossTest(FileCase):
    def test_what_was_flushed_is_lasting(self):
        self.file.write([1, 2], None)
        self.file.flush(None)
        self.file.write([3, 4], None)
        self.file.lose(0)
        self.assert_file([1, 2], 0)

    def test_a_prefix_of_the_pending_steps_arrives(self):
        for steps, content in ((0, [1, 2]), (1, [1, 2, 3]), (2, [1, 2, 3, 4]), (3, [1]), (4, [1, 5]), (5, [1, 5, 6]),
                               (6, [1, 5, 6]), (100, [1, 5, 6])):
            self.file = File()
            self.file.write([1, 2], None)
            self.file.flush(None)
            self.file.write([3, 4], None)
            self.file.shorten(1, None)
            self.file.write([5, 6], None)
            self.assert_file([1, 5, 6], 5)
            self.file.lose(steps)
            self.assert_file(content, 0)
            # What is left is lasting.
            self.file.lose(0)
            self.assert_file(content, 0)
            self.file.write([7], None)
            self.file.lose(0)
            self.assert_file(content, 0)

    def test_a_truncation_to_more_than_there_is_does_nothing_later(self):
        self.file.shorten(3, None)
        self.file.write([1, 2, 3, 4, 5], None)
        self.file.lose(6)
        self.assert_file([1, 2, 3, 4, 5], 0)

    def test_a_write_that_was_done_in_part(self):
        self.file.write([1, 2, 3], 2)
        self.file.lose(5)
        self.assert_file([1, 2], 0)


class ListsTest(FileCase):
    def test_the_list_that_is_passed_is_not_kept(self):
        data = [1, 2]
        self.file.write(data, None)
        data[0] = 9
        data.append(3)
        self.assert_file([1, 2], 2)
        self.file.lose(2)
        self.assert_file([1, 2], 0)

    def test_the_list_that_is_returned_is_nobodys(self):
        self.file.write([1, 2], None)
        self.file.content().append(3)
        self.assert_file([1, 2], 2)
        self.file.flush(None)
        self.file.content().clear()
        self.file.write([4], None)
        self.file.content()[0] = 7
        self.file.lose(0)
        self.assert_file([1, 2], 0)


class PlainFile:
    """Point [51] word by word: a list of all steps since the beginning."""

    def __init__(self):
        self.steps = []

    def content(self):
        found = []
        for word, number in self.steps:
            if word == "write":
                found = found + [number]
            if word == "shorten":
                found = found[:number]
        return found

    def last_flush(self):
        return max([k + 1 for k, step in enumerate(self.steps) if step[0] == "flush"], default=0)

    def pending(self):
        return len(self.steps) - self.last_flush()

    def lose(self, steps):
        self.steps = self.steps[:self.last_flush() + steps] + [("flush", None)]


class RandomStepsTest(FileCase):
    def test_against_the_words_of_the_document(self):
        chance = random.Random(51)
        for _ in range(150):
            self.file, plain = File(), PlainFile()
            for _ in range(25):
                limit = chance.choice((None, 0, 1, 2, 9))
                word = chance.choice(("write", "write", "write", "shorten", "flush", "lose"))
                if word == "lose":
                    steps = chance.choice((0, 1, plain.pending(), plain.pending() + 1, chance.randrange(9)))
                    self.file.lose(steps)
                    plain.lose(steps)
                else:
                    data = {"write": [chance.randrange(256) for _ in range(chance.randrange(5))],
                            "shorten": [chance.randrange(10)], "flush": [None]}[word]
                    wanted = [(word, number) for number in data]
                    done = wanted if limit is None else wanted[:limit]
                    given = {"write": [data, limit], "shorten": [*data, limit], "flush": [limit]}[word]
                    self.assertEqual(getattr(self.file, word)(*given), len(done))
                    plain.steps += done
                self.assert_file(plain.content(), plain.pending())


if __name__ == "__main__":
    unittest.main()
