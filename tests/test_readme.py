"""The examples in README.md."""

import doctest
import pathlib
import unittest


class Examples(unittest.TestCase):
    def test_they_are_true(self):
        text = (pathlib.Path(__file__).parent.parent / "README.md").read_text()
        self.assertIn("divide(case).coins()", text)
        test = doctest.DocTestParser().get_doctest(text.replace("```", ""), {}, "README.md", None, 0)
        self.assertGreater(len(test.examples), 20)
        told = []
        doctest.DocTestRunner(verbose=False).run(test, out=told.append)
        self.assertEqual("".join(told), "")


if __name__ == "__main__":
    unittest.main()
