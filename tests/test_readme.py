import doctest
import unittest
from pathlib import Path

README = Path(__file__).resolve().parent.parent / "README.md"


class ReadmeTest(unittest.TestCase):
    def test_examples(self):
        # Examples are fenced, so a fence stands behind what is returned.
        text = README.read_text(encoding="utf-8").replace("\n```", "\n")
        test = doctest.DocTestParser().get_doctest(text, {}, "README", str(README), 0)
        self.assertTrue(test.examples)
        results = doctest.DocTestRunner(verbose=False).run(test)
        self.assertEqual(results.failed, 0)


if __name__ == "__main__":
    unittest.main()
