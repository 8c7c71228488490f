"""The examples of README.md."""

import doctest
import os
import re
import unittest

ROOT = os.path.dirname(os.path.dirname(os.path.abspath(__file__)))


class Readme(unittest.TestCase):
    def setUp(self):
        with open(os.path.join(ROOT, "README.md"), encoding="utf-8") as file:
            self.text = file.read()

    def test_examples(self):
        # The fences around the examples are no part of what is printed.
        text = re.sub("^```$", "", self.text, flags=re.MULTILINE)
        examples = doctest.DocTestParser().get_doctest(text, {}, "README.md", "README.md", 0)
        self.assertGreater(len(examples.examples), 15)
        told = []
        failed = doctest.DocTestRunner(verbose=False).run(examples, out=told.append).failed
        self.assertEqual(failed, 0, "".join(told))

    def test_how_to_run_the_tests(self):
        self.assertIn("bash .ci/run", self.text)
        self.assertIn("python3 -m unittest", self.text)


if __name__ == "__main__":
    unittest.main()
