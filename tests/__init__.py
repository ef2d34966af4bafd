"""The tests of fairweather."""
