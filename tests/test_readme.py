import doctest
import pathlib
import unittest

README = pathlib.Path(__file__).resolve().parent.parent / "README.md"


class ReadmeTest(unittest.TestCase):
    def test_the_examples_hold(self):
        # The fence that closes an example would be read as a line of its answer.
        text = README.read_text().replace("```\n", "\n")
        case = doctest.DocTestParser().get_doctest(text, {}, "README.md", str(README), 0)
        told = []
        results = doctest.DocTestRunner(verbose=False).run(case, out=told.append)
        self.assertEqual("".join(told), "")
        self.assertGreater(results.attempted, 5)
