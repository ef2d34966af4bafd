import unittest

from fairweather import errors

PART = ("BadNumber", "BadNet", "BadProgram", "BadCode", "BadStanding", "BadWorld", "BadEvent", "BadPaper", "Misfit")
FIELDS = {**{name: ("part",) for name in PART}, "Twice": ("value",), "Unknown": ("name",), "TooMany": ("what", "most"),
          "BadText": ("item",)}
VALUES = [0, -5, True, None, "text", b"x", 1.5, (), (1, (2,)), [1, [2]], {"a": 1}, {1, 2}, object(), ValueError("x"), int]


class Errors(unittest.TestCase):
    def test_all_are_there_and_no_others(self):
        found = {name for name, value in vars(errors).items() if isinstance(value, type)}
        self.assertEqual(found, set(FIELDS) | {"WeatherError"})

    def test_made_by_place_and_by_name(self):
        for name, fields in FIELDS.items():
            kind = getattr(errors, name)
            for value in VALUES:
                values = [value, "other"][:len(fields)]
                by_place = kind(*values)
                by_name = kind(**dict(zip(fields, values)))
                for error in (by_place, by_name):
                    self.assertIs(type(error), kind)
                    for field, kept in zip(fields, values):
                        self.assertIs(getattr(error, field), kept)

    def test_fields_by_place_and_name_mixed(self):
        error = errors.TooMany("lines", most=200)
        self.assertEqual((error.what, error.most), ("lines", 200))
        error = errors.TooMany(most=[1], what=None)
        self.assertEqual((error.what, error.most), (None, [1]))

    def test_each_stands_directly_below_weather_error(self):
        for name in FIELDS:
            self.assertEqual(getattr(errors, name).__bases__, (errors.WeatherError,))
        self.assertEqual(errors.WeatherError.__bases__, (ValueError,))

    def test_weather_error_takes_any_values(self):
        for values in ([], [1], ["a", None], [[], {}, 3]):
            error = errors.WeatherError(*values)
            self.assertIsInstance(error, ValueError)
            self.assertEqual(error.args, tuple(values))

    def test_wrong_numbers_of_fields(self):
        for name, fields in FIELDS.items():
            kind = getattr(errors, name)
            self.assertRaises(TypeError, kind)
            self.assertRaises(TypeError, kind, *range(len(fields) + 1))
            self.assertRaises(TypeError, kind, other=1)

    def test_raised_and_caught(self):
        for name, fields in FIELDS.items():
            kind = getattr(errors, name)
            with self.assertRaises(errors.WeatherError) as caught:
                raise kind(*fields)
            self.assertIs(type(caught.exception), kind)


if __name__ == "__main__":
    unittest.main()
