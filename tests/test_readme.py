import doctest
import unittest
from pathlib import Path

README = Path(__file__).resolve().parent.parent / "README.md"


class Readme(unittest.TestCase):
    def test_examples(self):
        # the fences of the code blocks would be taken for answers
        text = "\n".join("" if line.startswith("```") else line for line in README.read_text().splitlines())
        examples = doctest.DocTestParser().get_doctest(text, {}, "README.md", None, 0)
        results = doctest.DocTestRunner(verbose=False).run(examples)
        self.assertGreater(results.attempted, 0)
        self.assertEqual(results.failed, 0)


if __name__ == "__main__":
    unittest.main()
