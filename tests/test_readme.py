"""Tests that the examples of README.md are true."""

import doctest
import pathlib
import unittest

README = pathlib.Path(__file__).resolve().parent.parent / "README.md"


class Examples(unittest.TestCase):
    def test_examples(self):
        blocks = README.read_text().split("```\n")[1::2]
        shown = [block for block in blocks if block.startswith(">>>")]
        self.assertGreater(len(shown), 2)
        for number, block in enumerate(shown):
            example = doctest.DocTestParser().get_doctest(block, {}, f"example {number}", "README.md", 0)
            report = []
            runner = doctest.DocTestRunner()
            runner.run(example, out=report.append)
            self.assertEqual(runner.failures, 0, "".join(report))


if __name__ == "__main__":
    unittest.main()
