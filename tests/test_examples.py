"""The examples of the document, and those of README.md, tell what the program returns."""

import doctest
import os
import unittest

FOLDER = os.path.dirname(os.path.abspath(__file__))


def run_examples(name):
    """How many examples of a file failed, how many there are, and what was printed for those that failed."""
    with open(os.path.join(FOLDER, name), encoding="utf-8") as file:
        # A line of a fence would count as a part of what an example prints.
        text = "".join("\n" if line.startswith("```") else line for line in file)
    found = doctest.DocTestParser().get_doctest(text, {}, name, name, 0)
    told = []
    runner = doctest.DocTestRunner(optionflags=doctest.REPORT_NDIFF)
    runner.run(found, out=told.append)
    return runner.failures, runner.tries, "".join(told)


class ExamplesTest(unittest.TestCase):
    def test_document(self):
        failures, tries, told = run_examples("examples.txt")
        self.assertEqual((failures, tries > 40), (0, True), told)

    def test_readme(self):
        failures, tries, told = run_examples(os.path.join("..", "README.md"))
        self.assertEqual((failures, tries > 20), (0, True), told)


if __name__ == "__main__":
    unittest.main()
