"""What README.md shows is what the program tells."""

import doctest
import pathlib
import unittest

README = pathlib.Path(__file__).resolve().parent.parent / "README.md"


class ReadmeTest(unittest.TestCase):
    def test_the_examples(self):
        # The marks of code would be read as a part of what is expected.
        text = README.read_text(encoding="utf-8").replace("```", "")
        examples = doctest.DocTestParser().get_doctest(text, {}, README.name, str(README), 0)
        self.assertGreater(len(examples.examples), 20)
        results = doctest.DocTestRunner(verbose=False).run(examples)
        self.assertEqual(results.failed, 0)


if __name__ == "__main__":
    unittest.main()
