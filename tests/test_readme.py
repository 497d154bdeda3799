"""The examples of README.md answer as it says."""

import doctest
import pathlib
import unittest

README = pathlib.Path(__file__).parent.parent / "README.md"


class ReadmeTest(unittest.TestCase):
    def test_the_examples(self):
        # An error's words are free, so its class alone is held against the example.
        told = doctest.testfile(str(README), module_relative=False, optionflags=doctest.IGNORE_EXCEPTION_DETAIL)
        self.assertGreater(told.attempted, 30)
        self.assertEqual(told.failed, 0)


if __name__ == "__main__":
    unittest.main()
