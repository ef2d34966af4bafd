"""Whether the files of the package keep to the subset of Python that they are written in."""

import ast
import builtins
import pathlib
import re
import unittest

PACKAGE = pathlib.Path(__file__).resolve().parent.parent / "fairweather"
FILES = {path.stem: path for path in sorted(PACKAGE.glob("*.py"))}
TEXTS = {name: path.read_bytes().decode("utf-8") for name, path in FILES.items()}
TREES = {name: ast.parse(text) for name, text in TEXTS.items()}

LIBRARY = {"heapq", "math", "itertools", "collections"}
CALLED = set("""len range enumerate zip min max sum abs sorted reversed int str bool list tuple dict set isinstance ord repr
any all divmod iter""".split())
METHODS = set("""append clear copy count endswith extend find get index insert isalnum isalpha isdigit islower isspace
isupper items join keys ljust lower lstrip partition pop remove replace reverse rfind rjust rpartition rsplit rstrip
setdefault split splitlines startswith strip update upper values zfill bit_length add discard isascii removeprefix
removesuffix __init__""".split())
BARRED = set("""register mro elements open input law version_info with_traceback add_note attrgetter breakpoint compile
copyright credits delattr dir eval exec exit gc getattr globals hasattr help id importlib license locals methodcaller os
quit setattr type vars sys""".split())
BARRED_ATTRIBUTES = set("""items keys values pop update append clear extend insert remove reverse setdefault sort args encode
decode hex fromhex format format_map mro register elements open input law""".split())
BARRED_WORDS = r"\b(type|typing|enum|Enum|Flag|Generic|Protocol|ABC|namedtuple|NamedTuple|dataclass|overload)\b"
DUNDER = {"__init__", "__eq__", "__str__", "__len__", "__bool__", "__iter__"}
TAKING_LISTS = {"any", "all", "min", "max", "sum", "sorted"}


def nodes(*kinds):
    """Each node of these kinds, with where it stands."""
    for name, tree in TREES.items():
        for node in ast.walk(tree):
            if isinstance(node, kinds):
                yield f"{name}.py:{getattr(node, 'lineno', 0)}", node


def bound_names(function):
    """The names that a function binds: its parameters, its variables and what it nests."""
    for node in ast.walk(function):
        if isinstance(node, ast.arg):
            yield node.arg
        elif isinstance(node, ast.Name) and isinstance(node.ctx, ast.Store):
            yield node.id
        elif isinstance(node, ast.FunctionDef) and node is not function:
            yield node.name


CHANGING = set("append clear extend insert pop remove reverse setdefault update".split())


def told(node):
    """A name, an attribute or an item as it is written, an item by what it is one of; None for all else."""
    while isinstance(node, ast.Subscript):
        node = node.value
    return ast.unparse(node) if isinstance(node, (ast.Name, ast.Attribute)) else None


def changed(node):
    """What a call, an assignment or a del changes, None if nothing."""
    if isinstance(node, ast.Call) and isinstance(node.func, ast.Attribute) and node.func.attr in CHANGING:
        return node.func.value
    if isinstance(node, ast.Subscript) and not isinstance(node.ctx, ast.Load):
        return node.value
    return node.target if isinstance(node, ast.AugAssign) else None


def in_copy(whole, node):
    """Whether a node stands in list(..), tuple(..), sorted(..) or range(..) within an expression."""
    copies = [one for one in ast.walk(whole) if isinstance(one, ast.Call)
              and getattr(one.func, "id", "") in ("list", "tuple", "sorted", "range")]
    return any(node in list(ast.walk(one)) for one in copies)


def aliases(function):
    """For each name or attribute of a function those that may be the same value, by plain assignments."""
    same = {told(node): {told(node)} for node in ast.walk(function) if told(node)}
    for node in ast.walk(function):
        if isinstance(node, ast.Assign):
            for one, other in [(target, node.value) for target in node.targets]:
                if told(one) and told(other):
                    both = same[told(one)] | same[told(other)]
                    same.update({name: both for name in both})
    return same


class Language(unittest.TestCase):
    def test_files(self):
        self.assertIn("__init__", FILES)
        for path in PACKAGE.rglob("*"):
            if "__pycache__" not in path.parts:
                self.assertTrue(path.suffix == ".py" and re.fullmatch(r"[a-z0-9_]+\.py", path.name), path)
        self.assertLessEqual(len(FILES), 100)

    def test_sizes_and_characters(self):
        for name, text in TEXTS.items():
            self.assertTrue(all(" " <= sign <= "~" or sign == "\n" for sign in text), name)
            lines = text.split("\n")
            self.assertLessEqual(len(lines), 399, name)
            self.assertLessEqual(max(map(len, lines)), 120, name)
        for where, node in nodes(ast.FunctionDef):
            self.assertLessEqual(node.end_lineno - node.lineno + 1, 40, where)

    def test_module_level(self):
        for name, tree in TREES.items():
            for node in tree.body:
                docstring = node is tree.body[0] and isinstance(node, ast.Expr)
                plain = (ast.Assign, ast.FunctionDef, ast.ClassDef, ast.ImportFrom)
                self.assertTrue(docstring or isinstance(node, plain), f"{name}.py:{node.lineno}")

    def test_imports(self):
        defined = {name: {node.name for node in tree.body if isinstance(node, (ast.FunctionDef, ast.ClassDef))}
                   | {node.targets[0].id for node in tree.body if isinstance(node, ast.Assign)} for name, tree in TREES.items()}
        for where, node in nodes(ast.Import):
            self.fail(where)
        for where, node in nodes(ast.ImportFrom):
            self.assertEqual(node.level, 0, where)
            if node.module not in LIBRARY:
                package, _, module = node.module.partition(".")
                self.assertEqual(package, "fairweather", where)
                for alias in node.names:
                    self.assertIsNone(alias.asname, where)
                    self.assertIn(alias.name, defined[module], where)

    def test_no_two_files_import_from_each_other(self):
        below = {name: {node.module.partition(".")[2] for node in ast.walk(tree) if isinstance(node, ast.ImportFrom)}
                 for name, tree in TREES.items()}
        while below:
            free = [name for name, needed in below.items() if not needed & set(below)]
            self.assertTrue(free, below)
            for name in free:
                del below[name]

    def test_statements_and_expressions(self):
        barred = (ast.Global, ast.Try, ast.With, ast.AsyncFunctionDef, ast.AnnAssign, ast.Yield, ast.YieldFrom, ast.Div,
                  ast.NamedExpr)
        for where, node in nodes(*barred):
            self.fail(f"{where} {node}")
        for where, node in nodes(ast.Compare):
            for sign, right in zip(node.ops, node.comparators):
                if isinstance(sign, (ast.Is, ast.IsNot)):
                    self.assertIn(getattr(right, "value", 0), (None, True, False), where)
        for where, node in nodes(ast.arg):
            self.assertIsNone(node.annotation, where)
        for where, node in nodes(ast.FunctionDef):
            self.assertIsNone(node.returns, where)
            self.assertTrue(all(getattr(one, "id", "") in ("staticmethod", "property") for one in node.decorator_list), where)

    def test_attributes_are_assigned_through_names(self):
        for where, node in nodes(ast.Attribute):
            if isinstance(node.ctx, ast.Store):
                self.assertIsInstance(node.value, ast.Name, where)

    def test_loops_do_not_change_what_they_walk(self):
        for where, function in nodes(ast.FunctionDef):
            same = aliases(function)
            for loop in [node for node in ast.walk(function) if isinstance(node, ast.For)]:
                walked = {name for node in ast.walk(loop.iter) if not in_copy(loop.iter, node) for name in same.get(told(node), ())}
                for node in [one for row in loop.body for one in ast.walk(row)]:
                    self.assertFalse(walked & same.get(told(changed(node)), set()), f"{where} {ast.unparse(loop.iter)}")

    def test_calls(self):
        own = {node.name for _, node in nodes(ast.FunctionDef, ast.ClassDef)}
        for where, node in nodes(ast.Call):
            if isinstance(node.func, ast.Name):
                name = node.func.id
                self.assertTrue(name in CALLED or name in own or not hasattr(builtins, name) or name == "ValueError",
                                f"{where} {name}")
                if name in TAKING_LISTS:
                    self.assertFalse(any(isinstance(one, ast.GeneratorExp) for one in node.args), f"{where} {name}")
            else:
                self.assertIsInstance(node.func, ast.Attribute, where)
                self.assertTrue(node.func.attr in METHODS or node.func.attr in own, f"{where} {node.func.attr}")

    def test_names(self):
        for name, tree in TREES.items():
            taken = {node.name for node in tree.body if isinstance(node, ast.ClassDef)}
            taken |= {alias.name for node in tree.body if isinstance(node, ast.ImportFrom) for alias in node.names}
            for node in tree.body:
                self.assertFalse(hasattr(builtins, getattr(node, "name", "_")), f"{name}.py:{node.lineno}")
            for function in [node for node in ast.walk(tree) if isinstance(node, ast.FunctionDef)]:
                where = f"{name}.py:{function.lineno}"
                for bound in bound_names(function):
                    self.assertFalse(hasattr(builtins, bound) or bound in taken or bound in BARRED, f"{where} {bound}")
                if function.name.startswith("__"):
                    self.assertIn(function.name, DUNDER, where)
                self.assertNotIn(function.name, BARRED, where)

    def test_attributes(self):
        methods = {node.name for _, one in nodes(ast.ClassDef) for node in one.body if isinstance(node, ast.FunctionDef)}
        stored = {node.attr for _, node in nodes(ast.Attribute) if isinstance(node.ctx, ast.Store)}
        self.assertFalse(stored & methods)
        self.assertFalse(stored & BARRED_ATTRIBUTES)
        for where, node in nodes(ast.Attribute):
            told = node.attr in stored | methods | METHODS | {"__class__", "__name__"}
            self.assertTrue(told, f"{where} {node.attr}")

    def test_strings(self):
        for where, node in nodes(ast.Constant):
            if isinstance(node.value, str):
                self.assertNotIn("%", node.value, where)
                self.assertFalse(node.value.endswith(("._", ".__")), where)
                self.assertFalse(re.fullmatch(r"__.*__", node.value), where)
        for name, text in TEXTS.items():
            self.assertNotIn("\t", text)
            self.assertNotIn("_wall", text)
            code = re.sub(r'""".*?"""|#.*', "", text, flags=re.S)
            self.assertIsNone(re.search(BARRED_WORDS, code), name)

    def test_each_part_says_what_it_is_for(self):
        for name, tree in TREES.items():
            self.assertTrue(ast.get_docstring(tree), name)
        for where, node in nodes(ast.ClassDef):
            self.assertTrue(ast.get_docstring(node), where)


if __name__ == "__main__":
    unittest.main()
