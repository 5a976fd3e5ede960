"""The package's files against the rules of LANGUAGE.md, as far as a look at each file can tell."""

import ast
import builtins
import pathlib
import re
import unittest

PACKAGE = pathlib.Path(__file__).resolve().parent.parent / "circles"

STATEMENTS = (ast.Module, ast.FunctionDef, ast.arguments, ast.arg, ast.Assign, ast.AugAssign, ast.If, ast.While,
              ast.For, ast.Return, ast.Break, ast.Continue, ast.Pass, ast.Expr)
EXPRESSIONS = (ast.Constant, ast.Name, ast.Load, ast.Store, ast.List, ast.Tuple, ast.Dict, ast.BinOp, ast.UnaryOp,
               ast.BoolOp, ast.Compare, ast.IfExp, ast.Call, ast.Attribute, ast.Subscript, ast.Slice, ast.ListComp,
               ast.comprehension, ast.keyword, ast.operator, ast.unaryop, ast.boolop, ast.cmpop)
OUT = (ast.Div, ast.MatMult, ast.Is, ast.IsNot)
OWN_NAMES = ("len range enumerate zip min max sum abs sorted reversed int str bool list tuple dict isinstance ord repr "
             "any all divmod").split()
METHODS = ("append clear copy count endswith extend find get index insert isalnum isalpha isdigit islower isspace "
           "isupper items join keys ljust lower lstrip partition pop remove replace reverse rfind rjust rpartition "
           "rsplit rstrip setdefault split splitlines startswith strip update upper values zfill bit_length").split()
WALKED = ("range", "zip", "enumerate", "reversed")
WALKERS = ("list", "tuple", "dict", "sorted", "sum", "any", "all", "enumerate", "zip", "min", "max")
CHANGES = ("append", "clear", "extend", "insert", "pop", "remove", "reverse", "setdefault", "update")
WORDS = ("type typing typing_extensions enum Enum IntEnum StrEnum Flag IntFlag Generic Protocol ABC ABCMeta namedtuple "
         "NamedTuple TypedDict TYPE_CHECKING abstractmethod").split()
UNUSED = ("register mro elements open input version_info with_traceback add_note attrgetter breakpoint builtins "
          "compile copyright credits delattr dir eval exec exit gc getattr globals hasattr help id importlib license "
          "locals methodcaller os quit setattr super type vars sys").split()


def files():
    return sorted(path for path in PACKAGE.rglob("*") if "__pycache__" not in path.parts)


def trees():
    return [(path.name, ast.parse(path.read_text("utf-8"))) for path in files()]


def nodes(kind):
    return [(f"{name}:{node.lineno}", node) for name, tree in trees() for node in ast.walk(tree)
            if isinstance(node, kind)]


def bound_names(tree):
    for node in ast.walk(tree):
        if isinstance(node, ast.Name) and isinstance(node.ctx, ast.Store):
            yield node.id
        elif isinstance(node, ast.arg):
            yield node.arg
        elif isinstance(node, ast.FunctionDef):
            yield node.name


def is_plain(node):
    try:
        return isinstance(ast.literal_eval(node), (int, str, tuple, list, dict, type(None)))
    except ValueError:
        return False


class Files(unittest.TestCase):
    def test_only_plain_files(self):
        self.assertIn(PACKAGE / "__init__.py", files())
        for path in files():
            self.assertTrue(path.is_file() and re.fullmatch(r"[a-z0-9_]+\.py", path.name), path)
            self.assertNotIn(path.stem, dir(builtins))

    def test_signs_and_sizes(self):
        for path in files():
            rows = path.read_bytes().decode("ascii").split("\n")
            self.assertLessEqual(len(rows), 401, path)
            for row in rows:
                self.assertLessEqual(len(row), 120, row)
                self.assertTrue(all(" " <= sign <= "~" for sign in row), row)

    def test_words_that_stand_nowhere(self):
        for path in files():
            text = path.read_text("ascii")
            self.assertEqual([word for word in WORDS if re.search(rf"\b{word}\b", text)], [], path)
            self.assertIsNone(re.search("dataclass|overload|contextmanager", text), path)

    def test_functions_are_short(self):
        for place, node in nodes(ast.FunctionDef):
            self.assertLessEqual(node.end_lineno - node.lineno + 1, 40, place)


class Forms(unittest.TestCase):
    def test_only_the_forms_that_are_let(self):
        for name, tree in trees():
            for node in ast.walk(tree):
                place = f"{name}:{getattr(node, 'lineno', '')} {type(node).__name__}"
                self.assertIsInstance(node, STATEMENTS + EXPRESSIONS, place)
                self.assertNotIsInstance(node, OUT, place)

    def test_nothing_is_imported(self):
        self.assertEqual(nodes((ast.Import, ast.ImportFrom)), [])

    def test_functions_are_plain(self):
        for place, node in nodes(ast.FunctionDef):
            told = node.args
            self.assertFalse(node.decorator_list or told.vararg or told.kwarg or told.kwonlyargs or told.posonlyargs,
                             place)
            self.assertTrue(all(is_plain(value) for value in told.defaults), place)
            self.assertFalse(node.returns or [arg for arg in told.args if arg.annotation], place)

    def test_top_of_a_file(self):
        for name, tree in trees():
            self.assertTrue(ast.get_docstring(tree), name)
            tops = []
            for node in tree.body[1:]:
                if isinstance(node, ast.FunctionDef):
                    tops.append(node.name)
                else:
                    self.assertIsInstance(node, ast.Assign, name)
                    self.assertTrue(is_plain(node.value), f"{name}:{node.lineno}")
                    # What a list or dict at the top would keep, no call may see: there is none.
                    self.assertNotIsInstance(node.value, (ast.List, ast.Dict), f"{name}:{node.lineno}")
                    tops.append(node.targets[0].id)
            self.assertEqual(len(tops), len(set(tops)), name)

    def test_statements(self):
        for place, node in nodes((ast.For, ast.While)):
            self.assertEqual(node.orelse, [], place)
        for place, node in nodes(ast.Assign):
            self.assertEqual(len(node.targets), 1, place)
        for place, node in nodes(ast.Expr):
            self.assertTrue(isinstance(node.value, ast.Call) or isinstance(node.value, ast.Constant), place)

    def test_expressions(self):
        for place, node in nodes(ast.ListComp):
            self.assertEqual(len(node.generators), 1, place)
            self.assertLessEqual(len(node.generators[0].ifs), 1, place)
        for place, node in nodes(ast.Constant):
            self.assertIsInstance(node.value, (int, str, type(None)), place)
        for place, node in nodes(ast.BinOp):
            if isinstance(node.op, ast.Pow):
                self.assertTrue(isinstance(node.right, ast.Constant) and 0 <= node.right.value <= 64, place)

    def test_what_a_loop_walks_is_not_changed(self):
        for place, loop in nodes(ast.For):
            walked = {node.id for node in ast.walk(loop.iter) if isinstance(node, ast.Name)}
            changed = set()
            for node in [inner for statement in loop.body for inner in ast.walk(statement)]:
                if isinstance(node, ast.Attribute) and node.attr in CHANGES and isinstance(node.value, ast.Name):
                    changed.add(node.value.id)
                if isinstance(node, ast.Subscript) and isinstance(node.ctx, ast.Store):
                    changed.add(node.value.id)
            self.assertEqual(walked & changed, set(), place)


class Names(unittest.TestCase):
    def test_bound_names_are_plain_and_own(self):
        for name, tree in trees():
            for bound in bound_names(tree):
                self.assertTrue(re.fullmatch("[A-Za-z][A-Za-z0-9_]*", bound), f"{name}: {bound}")
                self.assertNotIn(bound, dir(builtins), f"{name}: {bound}")
                self.assertNotIn(bound, UNUSED, name)

    def test_names_that_are_read(self):
        for name, tree in trees():
            own = set(bound_names(tree))
            for node in ast.walk(tree):
                if isinstance(node, ast.Name):
                    self.assertTrue(node.id in own or node.id in OWN_NAMES, f"{name}:{node.lineno} {node.id}")

    def test_attributes_are_methods_that_are_called(self):
        called = [node.func for place, node in nodes(ast.Call)]
        spots = [(node.lineno, node.col_offset, node.attr) for node in called if isinstance(node, ast.Attribute)]
        for place, node in nodes(ast.Attribute):
            self.assertIn(node.attr, METHODS, place)
            self.assertIn((node.lineno, node.col_offset, node.attr), spots, place)

    def test_own_names_of_python_are_called(self):
        for name, tree in trees():
            called = [id(node.func) for node in ast.walk(tree) if isinstance(node, ast.Call)]
            called += [id(node.value) for node in ast.walk(tree) if isinstance(node, ast.keyword)]
            for node in ast.walk(tree):
                if isinstance(node, ast.Name) and node.id in OWN_NAMES:
                    self.assertIn(id(node), called, f"{name}:{node.lineno} {node.id}")

    def test_ranges_are_walked_at_once(self):
        for name, tree in trees():
            good = []
            for node in ast.walk(tree):
                if isinstance(node, (ast.For, ast.comprehension)):
                    good.append(id(node.iter))
                if isinstance(node, ast.Call) and isinstance(node.func, ast.Name) and node.func.id in WALKERS:
                    good += [id(arg) for arg in node.args[:1]]
            for node in ast.walk(tree):
                if isinstance(node, ast.Call) and isinstance(node.func, ast.Name) and node.func.id in WALKED:
                    self.assertIn(id(node), good, f"{name}:{node.lineno}")


if __name__ == "__main__":
    unittest.main()
