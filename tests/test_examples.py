"""Every example of the document for the files that are there, and those of the README."""

import doctest
import os
import unittest

HERE = os.path.dirname(os.path.abspath(__file__))
README = os.path.join(os.path.dirname(HERE), "README.md")


class ExamplesTest(unittest.TestCase):
    def run_file(self, path):
        failed, tried = doctest.testfile(path, module_relative=False, encoding="utf-8")
        self.assertEqual(failed, 0)
        self.assertGreater(tried, 0)

    def test_document(self):
        self.run_file(os.path.join(HERE, "examples.txt"))

    def test_readme(self):
        self.run_file(README)
