import doctest
import pathlib
import unittest

README = pathlib.Path(__file__).resolve().parent.parent / "README.md"


class ReadmeTest(unittest.TestCase):
    def test_the_examples(self):
        # The fences of the examples stand directly behind what is expected.
        text = README.read_text().replace("```", "")
        examples = doctest.DocTestParser().get_doctest(text, {}, "README.md", str(README), 0)
        said = []
        result = doctest.DocTestRunner().run(examples, out=said.append)
        self.assertGreater(result.attempted, 30)
        self.assertEqual(result.failed, 0, "".join(said))


if __name__ == "__main__":
    unittest.main()
