"""The examples of the document's interface, as they stand, and those of the README."""

import doctest
import unittest


class TestExamples(unittest.TestCase):
    def test_examples(self):
        for name in ("examples.txt", "../README.md"):
            done = doctest.testfile(name, report=True)
            self.assertGreater(done.attempted, 5)
            self.assertEqual(done.failed, 0)


if __name__ == "__main__":
    unittest.main()
