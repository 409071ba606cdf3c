"""The examples of README.md."""

import doctest
import unittest
from pathlib import Path

README = Path(__file__).resolve().parent.parent / "README.md"


class ReadmeTest(unittest.TestCase):
    def test_examples(self):
        # The line that ends a block of code would count as a line that an example prints.
        text = README.read_text("utf-8").replace("```", "")
        examples = doctest.DocTestParser().get_doctest(text, {}, "README.md", None, 0)
        self.assertGreater(len(examples.examples), 20)
        printed = []
        result = doctest.DocTestRunner(verbose=False).run(examples, out=printed.append)
        self.assertEqual(result.failed, 0, "".join(printed))


if __name__ == "__main__":
    unittest.main()
