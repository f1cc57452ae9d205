import doctest
import pathlib
import unittest

EXAMPLES = pathlib.Path(__file__).resolve().parent / "examples.txt"


class Examples(unittest.TestCase):
    def test_each_section_by_itself(self):
        _, *sections = EXAMPLES.read_text().split("\n## ")
        self.assertEqual(len(sections), 16)
        for section in sections:
            name, _, text = section.partition("\n")
            with self.subTest(name):
                found = doctest.DocTestParser().get_doctest(text, {}, name, str(EXAMPLES), 0)
                self.assertGreater(len(found.examples), 2)
                result = doctest.DocTestRunner(optionflags=doctest.IGNORE_EXCEPTION_DETAIL).run(found)
                self.assertEqual(result.failed, 0)
