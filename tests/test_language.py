"""The rules of LANGUAGE.md that a short look at the syntax tree can check."""

import ast
import builtins
import pathlib
import unittest

PACKAGE = pathlib.Path(__file__).resolve().parent.parent / "bastion"

ALLOWED_BUILTINS = set(
    "len range enumerate zip min max sum abs sorted reversed int str bool bytes list tuple dict set frozenset "
    "isinstance ord repr any all divmod pow getattr hasattr setattr iter next super property Exception ValueError "
    "TypeError KeyError IndexError LookupError ZeroDivisionError ArithmeticError OverflowError RuntimeError "
    "NotImplementedError AttributeError StopIteration NotImplemented".split()
)

BUILTIN_METHODS = set(
    "append clear copy count endswith extend find get index insert isalnum isalpha isdigit islower isspace isupper "
    "items join keys ljust lower lstrip partition pop remove replace reverse rfind rjust rpartition rsplit rstrip "
    "setdefault split splitlines startswith strip update upper values zfill bit_length".split()
)

BARRED_NAMES = set(
    "register mro elements open input law version_info with_traceback add_note attrgetter breakpoint builtins compile "
    "copyright credits delattr dir eval exec exit gc globals help id importlib license locals methodcaller os quit "
    "type vars sys".split()
)

BARRED_NODES = (
    ast.Global, ast.AsyncFunctionDef, ast.AsyncFor, ast.AsyncWith, ast.Await, ast.Div, ast.MatMult, ast.Import,
)

MODULE_NODES = (ast.ImportFrom, ast.FunctionDef, ast.ClassDef, ast.Assign, ast.Expr)


# The examples of README.md leave their last value in the name _.
BUILTIN_NAMES = set(dir(builtins)) - {"_"}

MODIFIERS = "append clear extend insert pop remove reverse setdefault sort update".split()


def files():
    return sorted(PACKAGE.glob("*.py"))


def trees():
    return [(path.name, ast.parse(path.read_text(encoding="utf-8"))) for path in files()]


def nodes(kind):
    return [(name, node) for name, tree in trees() for node in ast.walk(tree) if isinstance(node, kind)]


def bound_names(function):
    """The parameters and local variables of a function."""
    names = [argument.arg for argument in ast.walk(function.args) if isinstance(argument, ast.arg)]
    stored = [node.id for node in ast.walk(function) if isinstance(node, ast.Name) and isinstance(node.ctx, ast.Store)]
    return names + stored


def looped_names(loop):
    """The names that a loop goes over, also through enumerate and the like."""
    calls = [loop.iter, *getattr(loop.iter, "args", [])]
    calls += [argument for call in calls for argument in getattr(call, "args", [])]
    owners = [call.func.value for call in calls if isinstance(getattr(call, "func", None), ast.Attribute)]
    return [node.id for node in calls + owners if isinstance(node, ast.Name)]


def modified_names(statements):
    """The names whose lists or dicts some statements modify."""
    inside = [node for statement in statements for node in ast.walk(statement)]
    methods = [node.func for node in inside if isinstance(node, ast.Call) and isinstance(node.func, ast.Attribute)]
    owners = [method.value for method in methods if method.attr in MODIFIERS]
    items = [node.value for node in inside if isinstance(node, ast.Subscript) and not isinstance(node.ctx, ast.Load)]
    return [node.id for node in owners + items if isinstance(node, ast.Name)]


class LanguageTest(unittest.TestCase):

    def test_the_folder_contains_python_files_only(self):
        others = [path.name for path in PACKAGE.iterdir() if path.suffix != ".py" and path.name != "__pycache__"]
        self.assertEqual(others, [])

    def test_sizes_and_characters(self):
        for path in files():
            text = path.read_text(encoding="utf-8")
            self.assertLessEqual(len(text.splitlines()), 399, path.name)
            self.assertLessEqual(max(len(line) for line in text.splitlines()), 120, path.name)
            self.assertTrue(all(character == "\n" or " " <= character <= "~" for character in text), path.name)
        for name, function in nodes(ast.FunctionDef):
            self.assertLessEqual(function.end_lineno - function.lineno + 1, 40, (name, function.name))

    def test_imports(self):
        for name, node in nodes(ast.ImportFrom):
            self.assertTrue(node.module.startswith("bastion.") and node.level == 0, name)
            self.assertFalse(any(alias.name == "*" or alias.asname for alias in node.names), name)

    def test_imports_name_the_defining_file(self):
        defined = {}
        for name, tree in trees():
            defined["bastion." + name[:-3]] = [node.name for node in tree.body if hasattr(node, "name")] + [
                target.id for node in tree.body if isinstance(node, ast.Assign) for target in node.targets
            ]
        for name, node in nodes(ast.ImportFrom):
            for alias in node.names:
                self.assertIn(alias.name, defined[node.module], name)

    def test_module_level(self):
        for name, tree in trees():
            for node in tree.body:
                self.assertIsInstance(node, MODULE_NODES, (name, node.lineno))
                if isinstance(node, ast.Expr):
                    self.assertIsInstance(node.value, ast.Constant)
                if isinstance(node, ast.Assign):
                    self.assertTrue(len(node.targets) == 1 and isinstance(node.targets[0], ast.Name))

    def test_no_barred_syntax(self):
        self.assertEqual([(name, node) for name, node in nodes(BARRED_NODES)], [])
        self.assertEqual([name for name, node in nodes(ast.Constant) if isinstance(node.value, float)], [])

    def test_decorators(self):
        for name, node in nodes((ast.FunctionDef, ast.ClassDef)):
            for decorator in node.decorator_list:
                self.assertEqual(getattr(decorator, "id", None), "property", (name, node.name))

    def test_names(self):
        for name, node in nodes(ast.Name):
            if node.id in BUILTIN_NAMES:
                self.assertIn(node.id, ALLOWED_BUILTINS, (name, node.lineno))
                self.assertIsInstance(node.ctx, ast.Load, (name, node.lineno))
            self.assertNotIn(node.id, BARRED_NAMES, name)
        for name, node in nodes(ast.Attribute):
            self.assertNotIn(node.attr, BARRED_NAMES, name)

    def test_no_local_name_hides_a_builtin_a_class_or_an_import(self):
        for name, tree in trees():
            taken = [alias.name for node in tree.body if isinstance(node, ast.ImportFrom) for alias in node.names]
            taken += [node.name for node in tree.body if isinstance(node, ast.ClassDef)]
            for function in [node for node in ast.walk(tree) if isinstance(node, ast.FunctionDef)]:
                for bound in bound_names(function):
                    self.assertNotIn(bound, taken, (name, function.name))
                    self.assertNotIn(bound, BUILTIN_NAMES, (name, function.name))

    def test_methods_that_are_called(self):
        own = [node.name for _, node in nodes(ast.FunctionDef)]
        for name, node in nodes(ast.Call):
            if isinstance(node.func, ast.Attribute):
                self.assertIn(node.func.attr, list(BUILTIN_METHODS) + own, (name, node.lineno))

    def test_no_loop_modifies_what_it_goes_over(self):
        for name, node in nodes(ast.For):
            for looped in looped_names(node):
                self.assertNotIn(looped, modified_names(node.body), (name, node.lineno))

    def test_f_strings_stand_on_one_line(self):
        for name, node in nodes(ast.JoinedStr):
            self.assertEqual(node.lineno, node.end_lineno, (name, node.lineno))

    def test_strings(self):
        for name, node in nodes(ast.Constant):
            if isinstance(node.value, str):
                self.assertNotIn("%", node.value, (name, node.lineno))


if __name__ == "__main__":
    unittest.main()
