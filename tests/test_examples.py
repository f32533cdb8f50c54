"""The examples of the document, as they stand there."""

import doctest
import unittest
from pathlib import Path

from tests.interface import all_functions


class Examples(unittest.TestCase):
    def test_examples(self):
        path = Path(__file__).with_name("examples.txt")
        test = doctest.DocTestParser().get_doctest(path.read_text(), all_functions(), "examples", str(path), 0)
        told = []
        runner = doctest.DocTestRunner(verbose=False)
        runner.run(test, out=told.append)
        self.assertEqual(runner.summarize(verbose=False).failed, 0, "".join(told))
        self.assertEqual(len(test.examples), 33)


if __name__ == "__main__":
    unittest.main()
