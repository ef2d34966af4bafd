import pathlib
import unittest

from tests.examples import examples_in, names, outcome

TEXT = pathlib.Path(__file__).with_name("examples.txt").read_text(encoding="ascii")


class Examples(unittest.TestCase):
    def test_examples(self):
        known = names()
        done = 0
        for command, told in examples_in(TEXT):
            with self.subTest(command=command):
                self.assertEqual(outcome(command, known), told)
            done += 1
        self.assertEqual(done, TEXT.count(">>> "))
        self.assertGreater(done, 0)


if __name__ == "__main__":
    unittest.main()
