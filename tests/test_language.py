"""That the package keeps to the part of Python it's written in: what of the rules L1 to L28 can be seen in its files."""

import ast
import builtins
import pathlib
import re
import unittest

PACKAGE = pathlib.Path(__file__).resolve().parent.parent / "madeconceded"

OWN_NAMES = set("""len range enumerate zip min max sum abs sorted reversed int str bool list tuple dict set frozenset
isinstance ord repr any all divmod Exception ValueError TypeError KeyError IndexError LookupError ZeroDivisionError
ArithmeticError OverflowError RuntimeError NotImplementedError AttributeError StopIteration""".split())
METHODS = set("""append clear copy count endswith extend find get index insert isalnum isalpha isdigit islower isspace
isupper items join keys ljust lower lstrip partition pop remove replace reverse rfind rjust rpartition rsplit rstrip
setdefault split splitlines startswith strip update upper values zfill bit_length""".split())
FORBIDDEN_WORDS = set("""type typing typing_extensions enum Enum IntEnum StrEnum Flag IntFlag Generic Protocol ABC
ABCMeta namedtuple NamedTuple TypedDict TYPE_CHECKING abstractmethod""".split())
FORBIDDEN_PARTS = ("dataclass", "overload", "contextmanager")
FORBIDDEN_NAMES = set("""register mro elements open input version_info with_traceback add_note attrgetter breakpoint
builtins compile copyright credits delattr dir eval exec exit gc getattr globals hasattr help id importlib license
locals methodcaller os quit setattr super type vars sys __name__ chr print""".split())

STATEMENTS = (ast.FunctionDef, ast.ClassDef, ast.Return, ast.Assign, ast.AugAssign, ast.For, ast.While, ast.If,
              ast.Raise, ast.Try, ast.ImportFrom, ast.Expr, ast.Pass, ast.Break, ast.Continue)
EXPRESSIONS = (ast.BoolOp, ast.BinOp, ast.UnaryOp, ast.Lambda, ast.IfExp, ast.Dict, ast.Set, ast.ListComp, ast.Compare,
               ast.Call, ast.FormattedValue, ast.JoinedStr, ast.Constant, ast.Attribute, ast.Subscript, ast.Name,
               ast.List, ast.Tuple, ast.Slice)
OPERATORS = (ast.Add, ast.Sub, ast.Mult, ast.FloorDiv, ast.Mod, ast.BitAnd, ast.BitOr, ast.BitXor, ast.LShift,
             ast.RShift)


def files():
    return sorted(PACKAGE.glob("*.py"))


def trees():
    return [(file.name, ast.parse(file.read_text("utf-8"))) for file in files()]


def nodes(*kinds):
    return [(f"{name}:{getattr(node, 'lineno', 0)}", node) for name, tree in trees()
            for node in ast.walk(tree) if isinstance(node, kinds)]


def bound_at_top(tree):
    for node in tree.body:
        if isinstance(node, (ast.FunctionDef, ast.ClassDef)):
            yield node.name
        elif isinstance(node, ast.Assign):
            yield node.targets[0].id
        elif isinstance(node, ast.ImportFrom):
            for alias in node.names:
                yield alias.asname or alias.name


class Files(unittest.TestCase):
    def test_only_plainly_named_files_lie_there(self):
        for path in PACKAGE.iterdir():
            if path.name != "__pycache__":
                self.assertRegex(path.name, r"^([a-z][a-z0-9_]*|__init__|__main__)\.py$")
                self.assertNotIn(path.stem, dir(builtins))
                self.assertNotIn(path.stem, FORBIDDEN_WORDS)
        self.assertTrue((PACKAGE / "__init__.py").is_file())

    def test_size_and_signs(self):
        for file in files():
            text = file.read_bytes().decode("ascii")
            self.assertRegex(text, r"\A[ -~\n]*\Z")
            self.assertLessEqual(len(text.split("\n")), 400)
            for line in text.split("\n"):
                self.assertLessEqual(len(line), 120, f"{file.name}: {line}")

    def test_words_that_stand_nowhere(self):
        for file in files():
            text = file.read_text("utf-8")
            self.assertEqual(FORBIDDEN_WORDS & set(re.findall(r"\w+", text)), set(), file.name)
            for part in FORBIDDEN_PARTS:
                self.assertNotIn(part, text)

    def test_functions_are_short(self):
        for where, node in nodes(ast.FunctionDef):
            self.assertLessEqual(node.end_lineno - node.lineno + 1, 40, where)


class TopsOfFiles(unittest.TestCase):
    def test_what_stands_there(self):
        for name, tree in trees():
            for at, node in enumerate(tree.body):
                if isinstance(node, ast.Expr):
                    self.assertTrue(at == 0 and isinstance(node.value, ast.Constant), name)
                else:
                    self.assertIsInstance(node, (ast.ImportFrom, ast.FunctionDef, ast.ClassDef, ast.Assign), name)

    def test_each_name_is_bound_once(self):
        for name, tree in trees():
            bound = list(bound_at_top(tree))
            self.assertEqual(len(bound), len(set(bound)), name)

    def test_imports_are_the_packages_own_from_where_they_are_defined(self):
        defined = {}
        for name, tree in trees():
            drawn = {alias.name for node in tree.body if isinstance(node, ast.ImportFrom) for alias in node.names}
            defined["madeconceded." + name[:-3]] = set(bound_at_top(tree)) - drawn
        for where, node in nodes(ast.ImportFrom):
            self.assertEqual(node.level, 0, where)
            self.assertIn(node.module, defined, where)
            for alias in node.names:
                self.assertIn(alias.name, defined[node.module], where)

    def test_imports_go_round_in_no_circle(self):
        draws = {"madeconceded." + name[:-3]: {node.module for node in tree.body if isinstance(node, ast.ImportFrom)}
                 for name, tree in trees()}
        while draws:
            free = [name for name, needed in draws.items() if not needed & set(draws)]
            self.assertTrue(free, draws)
            draws = {name: needed for name, needed in draws.items() if name not in free}

    def test_lists_and_dicts_there_hold_none_themselves(self):
        for name, tree in trees():
            for node in tree.body:
                if isinstance(node, ast.Assign) and isinstance(node.value, (ast.List, ast.Dict, ast.Tuple)):
                    inner = [one for one in ast.walk(node.value) if one is not node.value]
                    self.assertFalse([one for one in inner if isinstance(one, (ast.List, ast.Dict, ast.Set))], name)


class Forms(unittest.TestCase):
    def test_statements_and_expressions(self):
        for where, node in nodes(ast.stmt):
            self.assertIsInstance(node, STATEMENTS, where)
        for where, node in nodes(ast.expr):
            self.assertIsInstance(node, EXPRESSIONS, where)
        for where, node in nodes(ast.BinOp, ast.AugAssign):
            self.assertIsInstance(node.op, OPERATORS, where)

    def test_single_targets_that_are_plain(self):
        for where, node in nodes(ast.Assign):
            self.assertEqual(len(node.targets), 1, where)
            self.assertIsInstance(node.targets[0], (ast.Name, ast.Attribute, ast.Subscript), where)

    def test_no_else_behind_a_loop_and_no_finally(self):
        for where, node in nodes(ast.For, ast.While):
            self.assertEqual(node.orelse, [], where)
        for where, node in nodes(ast.Try):
            self.assertEqual(node.finalbody, [], where)
            for handler in node.handlers:
                self.assertIsInstance(handler.type, ast.Name, where)
                self.assertNotIn(handler.type.id, ("Exception", "TypeError"), where)

    def test_a_call_by_itself_or_a_docstring_of_a_file(self):
        for name, tree in trees():
            for node in ast.walk(tree):
                if isinstance(node, ast.Expr) and node is not tree.body[0]:
                    self.assertIsInstance(node.value, ast.Call, f"{name}:{node.lineno}")

    def test_constants_are_whole_numbers_texts_and_the_three(self):
        for where, node in nodes(ast.Constant):
            self.assertIsInstance(node.value, (int, str, type(None)), where)
            if isinstance(node.value, str):
                self.assertNotIn("%", node.value, where)

    def test_comprehensions_are_plain(self):
        for where, node in nodes(ast.ListComp):
            self.assertEqual(len(node.generators), 1, where)
            self.assertLessEqual(len(node.generators[0].ifs), 1, where)

    def test_is_stands_beside_the_three_alone(self):
        for where, node in nodes(ast.Compare):
            for operator, right in zip(node.ops, node.comparators):
                if isinstance(operator, (ast.Is, ast.IsNot)):
                    self.assertIsInstance(right, ast.Constant, where)
                    self.assertIn(right.value, (None, True, False), where)

    def test_functions_have_plain_parameters(self):
        for where, node in nodes(ast.FunctionDef):
            self.assertEqual(node.decorator_list, [], where)
            self.assertIsNone(node.args.vararg, where)
            self.assertIsNone(node.args.kwarg, where)
            self.assertEqual(node.args.kwonlyargs + node.args.posonlyargs, [], where)

    def test_classes_are_plain(self):
        for where, node in nodes(ast.ClassDef):
            self.assertEqual(node.decorator_list + node.keywords, [], where)
            self.assertLessEqual(len(node.bases), 1, where)
            for one in node.body:
                self.assertIsInstance(one, (ast.FunctionDef, ast.Pass), where)


class Names(unittest.TestCase):
    def test_all_names_are_plain_words_and_none_is_out(self):
        for where, node in nodes(ast.Name, ast.arg, ast.Attribute, ast.FunctionDef, ast.ClassDef):
            name = getattr(node, "id", None) or getattr(node, "arg", None) or getattr(node, "attr", None) or node.name
            self.assertRegex(name, r"^([A-Za-z][A-Za-z0-9_]*|__(init|eq|repr|str|len)__)$", where)
            self.assertNotIn(name, FORBIDDEN_NAMES, where)

    def test_pythons_own_names_are_those_that_are_listed_and_keep_their_meaning(self):
        for where, node in nodes(ast.Name):
            if node.id in dir(builtins):
                self.assertIn(node.id, OWN_NAMES, where)
                self.assertIsInstance(node.ctx, ast.Load, where)
        for where, node in nodes(ast.arg):
            self.assertNotIn(node.arg, dir(builtins), where)

    def test_no_local_is_called_like_a_name_of_its_files_top(self):
        for name, tree in trees():
            top = set(bound_at_top(tree))
            for function in ast.walk(tree):
                if isinstance(function, ast.FunctionDef):
                    inner = {node.arg for node in ast.walk(function) if isinstance(node, ast.arg)}
                    inner |= {node.id for node in ast.walk(function)
                              if isinstance(node, ast.Name) and isinstance(node.ctx, ast.Store)}
                    self.assertEqual(inner & top, set(), f"{name}: {function.name}")

    def test_methods_are_those_that_are_listed_or_own(self):
        own = {node.name for where, node in nodes(ast.FunctionDef)}
        for where, node in nodes(ast.Call):
            if isinstance(node.func, ast.Attribute):
                self.assertIn(node.func.attr, METHODS | own, where)


if __name__ == "__main__":
    unittest.main()
