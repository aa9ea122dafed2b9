"""The examples of README.md."""

import doctest
import unittest
from pathlib import Path

README = Path(__file__).resolve().parent.parent / "README.md"


class Examples(unittest.TestCase):
    def test_they_show_what_they_say(self):
        text = README.read_text("utf-8").replace("```", "")
        test = doctest.DocTestParser().get_doctest(text, {}, "README.md", str(README), 0)
        told = []
        runner = doctest.DocTestRunner(verbose=False, optionflags=doctest.IGNORE_EXCEPTION_DETAIL)
        runner.run(test, out=told.append)
        self.assertEqual(told, [])
        self.assertGreater(len(test.examples), 20)


if __name__ == "__main__":
    unittest.main()
