"""The examples of the document answer as they stand there."""

import doctest
import pathlib
import unittest

TEXT = pathlib.Path(__file__).with_name("examples.txt")


class ExamplesTest(unittest.TestCase):
    def test_examples(self):
        # In the document \n stands for a newline within a string.
        test = doctest.DocTestParser().get_doctest(TEXT.read_text(encoding="utf-8"), {}, "examples", str(TEXT), 0)
        told = []
        runner = doctest.DocTestRunner(verbose=False)
        runner.run(test, out=told.append)
        self.assertEqual(runner.summarize(verbose=False).failed, 0, "".join(told))
        self.assertGreater(runner.tries, 110)


if __name__ == "__main__":
    unittest.main()
