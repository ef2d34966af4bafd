"""Runs examples that are written as the interface of the document writes them."""

import importlib
import types

MODULES = ("errors", "checks", "papers", "shorts", "nets", "trees", "programs", "standings", "rounds", "calm", "codes",
           "computers", "layouts", "expressions", "statements", "shorter", "halves", "care", "houses", "lines", "weathers",
           "worlds")


def names():
    """All names of the modules whose examples are run."""
    found = {}
    for module in MODULES:
        for name, value in vars(importlib.import_module(f"fairweather.{module}")).items():
            if not name.startswith("__") and not isinstance(value, types.ModuleType):
                found[name] = value
    return found


def examples_in(text):
    """Each command with what is told to come of it, None where nothing is told."""
    lines = [line.strip() for line in text.strip().split("\n")]
    for at, line in enumerate(lines):
        if line.startswith(">>> "):
            below = lines[at + 1] if at + 1 < len(lines) else ""
            yield line[4:], None if not below or below.startswith(">>> ") else below


def outcome(command, known):
    """What comes of a command: the repr of its value, the error that it raises, or None for a statement."""
    try:
        code = compile(command, "example", "eval")
    except SyntaxError:
        exec(command, known)
        return None
    try:
        value = eval(code, known)
    except known["WeatherError"] as error:
        fields = ", ".join(repr(field) for field in vars(error).values())
        return f"raises {type(error).__name__}({fields})"
    return None if value is None else repr(value)
