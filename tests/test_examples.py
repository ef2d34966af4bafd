import pathlib
import unittest

from tests.examples import examples_in, names_of, outcome, sections

TEXT = pathlib.Path(__file__).with_name("examples.txt").read_text(encoding="ascii")


class Examples(unittest.TestCase):
    def test_examples(self):
        known = {}
        for module, _ in sections(TEXT):
            known.update(names_of(module))
        done = 0
        for module, text in sections(TEXT):
            # An earlier example may have given the name of one of its functions to something else.
            known.update(names_of(module))
            for command, told in examples_in(text):
                with self.subTest(command=command):
                    self.assertEqual(outcome(command, known), told)
                done += 1
        self.assertEqual(done, TEXT.count(">>> "))
        self.assertGreater(done, 0)


if __name__ == "__main__":
    unittest.main()
