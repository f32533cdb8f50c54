"""The examples of the document, as they stand there."""

import doctest
import unittest
from pathlib import Path

from tests.interface import all_names

MANY_EXAMPLES = 109


class Checker(doctest.OutputChecker):
    """Takes what is wanted as a value, as it may be told by the names of the examples."""

    def __init__(self, names):
        self.names = names

    def check_output(self, want, got, optionflags):
        return want == got or repr(eval(want, self.names)) + "\n" == got


class Examples(unittest.TestCase):
    def test_examples(self):
        path = Path(__file__).with_name("examples.txt")
        test = doctest.DocTestParser().get_doctest(path.read_text(), all_names(), "examples", str(path), 0)
        told = []
        runner = doctest.DocTestRunner(Checker(test.globs), verbose=False)
        runner.run(test, out=told.append, clear_globs=False)
        self.assertEqual(runner.summarize(verbose=False).failed, 0, "".join(told))
        self.assertEqual(len(test.examples), MANY_EXAMPLES)


if __name__ == "__main__":
    unittest.main()
