"""The examples of README.md."""

import doctest
import os
import unittest

ROOT = os.path.dirname(os.path.dirname(os.path.abspath(__file__)))


class ReadmeTest(unittest.TestCase):
    def test_examples(self):
        with open(os.path.join(ROOT, "README.md"), encoding="utf-8") as file:
            # An empty line ends what an example prints; here the fences do.
            text = file.read().replace("```", "")
        examples = doctest.DocTestParser().get_doctest(text, {}, "README.md", None, 0)
        self.assertGreater(len(examples.examples), 40)
        printed = []
        results = doctest.DocTestRunner(verbose=False).run(examples, out=printed.append)
        self.assertEqual(results.failed, 0, "".join(printed))


if __name__ == "__main__":
    unittest.main()
