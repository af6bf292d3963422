"""The examples of README.md."""

import doctest
import pathlib
import unittest

README = pathlib.Path(__file__).resolve().parent.parent / "README.md"


class ReadmeTest(unittest.TestCase):
    def test_its_examples(self):
        # A fence behind an example would be read as a part of what it prints.
        text = README.read_text(encoding="utf-8").replace("```", "")
        examples = doctest.DocTestParser().get_doctest(text, {}, "README.md", str(README), 0)
        found = []
        results = doctest.DocTestRunner().run(examples, out=found.append)
        self.assertEqual(results.failed, 0, "".join(found))
        self.assertGreater(results.attempted, 10)


if __name__ == "__main__":
    unittest.main()
