"""Expressions and statements: which values are some, and how deep, long and heavy they are."""

from fairweather.checks import is_list, is_short, is_within
from fairweather.errors import BadProgram

WORDS = ("and", "cells", "div", "do", "done", "each", "else", "end", "heard", "houses", "if", "input", "many", "me",
         "not", "or", "rem", "round", "say", "show", "then", "times", "to")

# The words that begin statements; all other forms are those of expressions.
STATEMENTS = ("set", "if", "each", "times", "say", "show")

# What kinds of values stand behind the word of each form, in reading order.
FORMS = {
    "short": ("short",),
    "name": ("name",),
    "me": (),
    "many": (),
    "houses": (),
    "input": (),
    "done": (),
    "heard": ("expression",),
    "not": ("expression",),
    "+": ("expression", "expression"),
    "-": ("expression", "expression"),
    "*": ("expression", "expression"),
    "div": ("expression", "expression"),
    "rem": ("expression", "expression"),
    "<": ("expression", "expression"),
    "=": ("expression", "expression"),
    "and": ("expression", "expression"),
    "or": ("expression", "expression"),
    "set": ("name", "expression"),
    "if": ("expression", "list", "list"),
    "each": ("name", "list"),
    "times": ("count", "list"),
    "say": ("expression", "expression"),
    "show": ("expression",),
}

MOST_LETTERS = 8
MOST_TIMES = 9


def is_name(value):
    """Whether a value is a name that a cell can have."""
    if not isinstance(value, str) or len(value) > MOST_LETTERS:
        return False
    return value.isascii() and value.isalpha() and value.islower() and value not in WORDS


def is_plain(kind, value):
    """Whether a value is a short, a name or a count, as its kind tells."""
    if kind == "short":
        return is_short(value)
    if kind == "name":
        return is_name(value)
    return is_within(value, 0, MOST_TIMES)


def has_form(kind, value):
    """Whether a list begins as a statement or an expression does, and has as many members as this one."""
    if len(value) == 0 or not isinstance(value[0], str) or value[0] not in FORMS:
        return False
    if (value[0] in STATEMENTS) != (kind == "statement"):
        return False
    return len(value) == 1 + len(FORMS[value[0]])


def within(kind, value, level):
    """The kind, the value and the level of all that stands directly in a value, None if it is not of its kind."""
    if kind in ("short", "name", "count"):
        return [] if is_plain(kind, value) else None
    if not is_list(value):
        return None
    if kind == "list":
        return [("statement", item, level) for item in value]
    if not has_form(kind, value):
        return None
    return [(inner, item, level + 1) for inner, item in zip(FORMS[value[0]], value[1:])]


def is_tree(kind, value, levels=None, parts=None):
    """Whether a value is of a kind, with so many levels and parts at most, None being no bound."""
    rest = [(kind, value, 1)]
    begun = 0
    while rest:
        inner, item, level = rest.pop()
        if inner in ("statement", "expression"):
            begun += 1
            # It ends as soon as a bound is passed: a small value may hold one list in very many places.
            if not is_within(level, None, levels) or not is_within(begun, None, parts):
                return False
        found = within(inner, item, level)
        if found is None:
            return False
        rest.extend(found)
    return True


def is_expression(value):
    """Whether a value is an expression."""
    return is_tree("expression", value)


def is_statement(value):
    """Whether a value is a statement."""
    return is_tree("statement", value)


def check_body(body):
    """BadProgram for what is no list of statements."""
    if not is_tree("list", body):
        raise BadProgram("body")


def parts_at(kind, value):
    """The parts that a value is or lists, as its kind tells."""
    if kind == "expression":
        return [value]
    return list(value) if kind == "list" else []


def parts_in(tree):
    """The parts that stand directly in a part, in reading order."""
    return [part for kind, value in zip(FORMS[tree[0]], tree[1:]) for part in parts_at(kind, value)]


def levels_in(tree):
    """How many levels a part has, itself being one."""
    return 1 + max([levels_in(part) for part in parts_in(tree)], default=0)


def depth_of(tree):
    """The greatest level within an expression or a statement."""
    if not is_expression(tree) and not is_statement(tree):
        raise BadProgram("tree")
    return levels_in(tree)


def count_of(trees):
    """How many parts these and all within them are."""
    return sum([1 + count_of(parts_in(tree)) for tree in trees])


def parts_of(body):
    """How many parts a list of statements has."""
    check_body(body)
    return count_of(body)


def weight_in(tree):
    """The weight of a part."""
    inner = sum([weight_in(part) for part in parts_in(tree)])
    if tree[0] == "each":
        return 1 + 5 * (1 + inner)
    if tree[0] == "times":
        return 1 + tree[1] * (1 + inner)
    # The list of an if that is done has no turns of its own.
    return 1 + inner


def weight_of(body):
    """The weight of a list of statements."""
    check_body(body)
    return sum([weight_in(statement) for statement in body])


def all_names_in(trees):
    """The names in parts, in reading order, as often as they stand there."""
    found = []
    for tree in trees:
        if tree[0] in ("name", "set", "each"):
            found.append(tree[1])
        found.extend(all_names_in(parts_in(tree)))
    return found


def names_in(body):
    """The names in a list of statements, in reading order, each once."""
    check_body(body)
    return tuple({name: True for name in all_names_in(body)})
