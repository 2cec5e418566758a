"""The examples of README.md."""

import doctest
import pathlib
import unittest

README = pathlib.Path(__file__).resolve().parent.parent / "README.md"


class ReadmeTest(unittest.TestCase):
    def test_the_examples(self):
        # The fences around the examples would be read as a part of what they print.
        text = README.read_text(encoding="utf-8").replace("```", "")
        examples = doctest.DocTestParser().get_doctest(text, {}, "README.md", str(README), 0)
        result = doctest.DocTestRunner(verbose=False).run(examples)
        self.assertGreater(result.attempted, 20)
        self.assertEqual(result.failed, 0)


if __name__ == "__main__":
    unittest.main()
