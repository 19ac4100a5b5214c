"""README.md: the examples tell what the program returns."""

import doctest
import os
import unittest

README = os.path.join(os.path.dirname(os.path.abspath(__file__)), "..", "README.md")


class ReadmeTest(unittest.TestCase):
    def test_examples(self):
        with open(README, encoding="utf-8") as file:
            # A line of a fence would count as a part of what an example prints.
            text = "".join("\n" if line.startswith("```") else line for line in file)
        found = doctest.DocTestParser().get_doctest(text, {}, "README.md", README, 0)
        told = []
        runner = doctest.DocTestRunner(optionflags=doctest.REPORT_NDIFF)
        runner.run(found, out=told.append)
        self.assertEqual((runner.failures, runner.tries > 5), (0, True), "".join(told))


if __name__ == "__main__":
    unittest.main()
