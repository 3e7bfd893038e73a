"""The README shows what the program does."""

import builtins
import doctest
import pathlib
import unittest

README = pathlib.Path(__file__).resolve().parent.parent / "README.md"


class ReadmeTest(unittest.TestCase):
    def test_the_examples(self):
        text = README.read_text(encoding="utf-8").replace("```", "")
        test = doctest.DocTestParser().get_doctest(text, {}, README.name, str(README), 0)
        self.assertGreater(len(test.examples), 30)
        # What is printed is also put into a builtin, which other tests are not to find.
        self.addCleanup(vars(builtins).pop, "_", None)
        printed = []
        results = doctest.DocTestRunner(verbose=False).run(test, out=printed.append)
        self.assertEqual(results.failed, 0, "".join(printed))


if __name__ == "__main__":
    unittest.main()
