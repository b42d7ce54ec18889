import doctest
import pathlib
import unittest

README = pathlib.Path(__file__).resolve().parent.parent / "README.md"


class ReadmeTest(unittest.TestCase):
    def test_the_examples_hold(self):
        # Without the marks of its blocks, which would be taken for answers.
        text = README.read_text(encoding="utf-8").replace("```\n", "\n")
        examples = doctest.DocTestParser().get_doctest(text, {}, README.name, str(README), 0)
        found = doctest.DocTestRunner(verbose=False).run(examples)
        self.assertGreater(found.attempted, 10)
        self.assertEqual(found.failed, 0)


if __name__ == "__main__":
    unittest.main()
