"""The document's own examples, word by word: one file for each section; and those of README.md."""

import doctest
import unittest

# section 2 has none
FILES = tuple(f"section_{at}.txt" for at in (1, *range(3, 22))) + ("../README.md",)


class Examples(unittest.TestCase):
    def test_each_file(self):
        for name in FILES:
            with self.subTest(name):
                failed, tried = doctest.testfile(name)
                self.assertGreater(tried, 0)
                self.assertEqual(failed, 0)


if __name__ == "__main__":
    unittest.main()
