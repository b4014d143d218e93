"""The calls that README.md shows, with their results."""

import doctest
import os
import re
import unittest

FILE = os.path.join(os.path.dirname(os.path.abspath(__file__)), os.pardir, "README.md")


class ReadmeTest(unittest.TestCase):

    def test_calls(self):
        with open(FILE, encoding="utf-8") as file:
            blocks = re.findall(r"```\n(>>>.*?)```", file.read(), re.DOTALL)
        self.assertGreater(len(blocks), 5)
        calls = doctest.DocTestParser().get_doctest("\n".join(blocks), {}, "README.md", FILE, 0)
        told = []
        found = doctest.DocTestRunner().run(calls, out=told.append)
        self.assertEqual(found.failed, 0, "".join(told))


if __name__ == "__main__":
    unittest.main()
