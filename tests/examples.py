"""Runs examples that are written as the interface of the document writes them."""

import importlib
import re
import types

from fairweather.errors import WeatherError


def names_of(module):
    """The names of a module of the package, those that it imports among them."""
    there = vars(importlib.import_module(f"fairweather.{module}"))
    return {name: value for name, value in there.items() if not name.startswith("__") and not isinstance(value, types.ModuleType)}


def sections(text):
    """Each module that heads a part of the text, with this part."""
    pieces = re.split("^fairweather/([a-z_]+)[.]py$", text, flags=re.MULTILINE)
    return list(zip(pieces[1::2], pieces[2::2]))


def examples_in(text):
    """Each command with what is told to come of it, None where nothing is told."""
    lines = [line.strip() for line in text.strip().split("\n")]
    for at, line in enumerate(lines):
        if line.startswith(">>> "):
            below = lines[at + 1] if at + 1 < len(lines) else ""
            yield line[4:], None if not below or below.startswith(">>> ") else below


def outcome(command, known):
    """What comes of a command: the repr of its value, the error that it raises, or None for a statement."""
    try:
        code = compile(command, "example", "eval")
    except SyntaxError:
        exec(command, known)
        return None
    try:
        value = eval(code, known)
    except WeatherError as error:
        fields = ", ".join(repr(field) for field in vars(error).values())
        return f"raises {type(error).__name__}({fields})"
    return None if value is None else repr(value)
