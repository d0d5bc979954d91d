import doctest
import pathlib
import unittest

README = pathlib.Path(__file__).resolve().parent.parent / "README.md"


class TestReadme(unittest.TestCase):
    def test_the_examples(self):
        # What the last example of a block prints would else be read on to the mark that ends the block.
        text = README.read_text("ascii").replace("\n```", "\n\n")
        examples = doctest.DocTestParser().get_doctest(text, {}, "README.md", str(README), 0)
        results = doctest.DocTestRunner().run(examples)
        self.assertGreater(results.attempted, 5)
        self.assertEqual(results.failed, 0)


if __name__ == "__main__":
    unittest.main()
