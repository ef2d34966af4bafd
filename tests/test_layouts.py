import unittest

from fairweather import layouts


class Layouts(unittest.TestCase):
    def test_each_address(self):
        told = {"CELLS": 0, "HEARD": 10, "INPUT": 20, "DONE": 21, "SAID": 30, "COUNT": 40, "SHOWN": 41, "FREE": 50, "OWN": 100}
        for name, address in told.items():
            self.assertIs(type(getattr(layouts, name)), int)
            self.assertEqual(getattr(layouts, name), address, name)


if __name__ == "__main__":
    unittest.main()
