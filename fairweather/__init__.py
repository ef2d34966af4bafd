"""Fairweather: programs for many computers, written as if nothing ever failed, run in any weather."""
