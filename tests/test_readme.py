"""The examples of README.md tell what the program returns."""

import doctest
import pathlib
import unittest

README = pathlib.Path(__file__).parent.parent / "README.md"


class Examples(unittest.TestCase):

    def test_examples(self):
        text = README.read_text(encoding="utf-8").replace("```", "")
        examples = doctest.DocTestParser().get_doctest(text, {}, "README.md", "README.md", 0)
        told = []
        counted = doctest.DocTestRunner().run(examples, out=told.append)
        self.assertGreater(counted.attempted, 0)
        self.assertEqual(counted.failed, 0, "".join(told))


if __name__ == "__main__":
    unittest.main()
