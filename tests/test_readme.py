import doctest
import pathlib
import unittest

README = pathlib.Path(__file__).resolve().parent.parent / "README.md"


class ReadmeTest(unittest.TestCase):
    def test_the_examples(self):
        # Without the fences, which would count as the last line of what is expected.
        text = README.read_text().replace("```", "")
        examples = doctest.DocTestParser().get_doctest(text, {}, "README.md", str(README), 0)
        self.assertGreater(len(examples.examples), 15)
        report = []
        result = doctest.DocTestRunner().run(examples, out=report.append)
        self.assertEqual(result.failed, 0, "".join(report))
