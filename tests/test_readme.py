"""The examples of README.md."""

import doctest
import pathlib
import unittest

README = pathlib.Path(__file__).parent.parent / "README.md"


class TestReadme(unittest.TestCase):
    def test_examples(self):
        # A fence behind an example would be taken for a part of its answer.
        lines = ["" if line.startswith("```") else line for line in README.read_text().splitlines()]
        examples = doctest.DocTestParser().get_doctest("\n".join(lines), {}, "README.md", None, 0)
        result = doctest.DocTestRunner(verbose=False).run(examples)
        self.assertEqual(result.failed, 0)
        self.assertGreater(result.attempted, 5)


if __name__ == "__main__":
    unittest.main()
