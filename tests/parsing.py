"""Tells which item of a text cannot stand as a program's, in another way than the package: by a stack of what is wanted."""

import re

from fairweather.shorts import SIGNS
from fairweather.trees import is_name


class Refused(Exception):
    """The item here cannot stand, or is missing."""


class Parser:
    def __init__(self, text):
        self.items = text.split(" ")
        self.wanted = [("end of text",), ("cells",), ("word", "cells")]
        self.names = []
        self.parts = 0
        self.at = 0

    def first_bad(self):
        """The index of the first item that cannot stand, None if all can."""
        try:
            while self.wanted:
                item = self.items[self.at] if self.at < len(self.items) else None
                want, *more = self.wanted.pop()
                getattr(self, want.replace(" ", "_"))(item, *more)
        except Refused:
            return self.at
        return None

    def need(self, held):
        if not held:
            raise Refused()

    def push(self, *wanted):
        self.wanted += reversed(wanted)

    def end_of_text(self, item):
        self.need(item is None)

    def word(self, item, *words):
        self.need(item in words)
        self.at += 1

    def short(self, item, least=-2 ** 31, most=2 ** 31 - 1):
        self.need(item is not None and re.fullmatch("0|-?[1-9][0-9]{0,9}", item) and least <= int(item) <= most)
        self.at += 1

    def cells(self, item):
        if item == "round":
            self.push(("word", "round"), ("list", 1, ("end",)), ("word", "end"))
        else:
            self.need(is_name(item) and item not in self.names and len(self.names) < 8)
            self.names.append(item)
            self.at += 1
            self.push(("short",), ("cells",))

    def begins(self, level):
        self.need(level <= 12 and self.parts < 200)
        self.parts += 1

    def list(self, item, level, ends):
        if item not in ends:
            self.push(("statement", level), ("list", level, ends))

    def no(self, item, level):
        if item == "else":
            self.push(("word", "else"), ("statement", level), ("list", level, ("end",)), ("word", "end"))
        else:
            self.push(("word", "end"))

    def statement(self, item, level):
        self.begins(level)
        inner = ("expression", level + 1)
        block = [("word", "do"), ("list", level + 1, ("end",)), ("word", "end")]
        forms = {"if": [inner, ("word", "then"), ("list", level + 1, ("end", "else")), ("no", level + 1)],
                 "each": [("word", *self.names), *block], "times": [("short", 0, 9), *block],
                 "say": [inner, ("word", "to"), inner], "show": [inner]}
        form = [("word", ":="), inner] if item in self.names else forms.get(item)
        self.need(form)
        self.at += 1
        self.push(*form)

    def expression(self, item, level):
        self.begins(level)
        inner = ("expression", level + 1)
        if item in ("heard", "not"):
            self.push(("word", item), inner)
        elif item == "(":
            self.push(("word", "("), inner, ("word", *SIGNS), inner, ("word", ")"))
        elif item in ("me", "many", "houses", "input", "done", *self.names):
            self.at += 1
        else:
            self.short(item)


def first_bad(text):
    """The index of the first item that cannot stand in a program's text, None if each can."""
    return Parser(text).first_bad()
