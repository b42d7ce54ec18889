"""The rules of ../shared/LANGUAGE.md that can be read off the files of the package one by one."""

import ast
import builtins
import pathlib
import re
import unittest

PACKAGE = pathlib.Path(__file__).resolve().parent.parent / "sortcuts"

BUILTINS = set("""
    len range enumerate zip min max sum abs sorted reversed int str bool bytes list tuple dict set frozenset
    isinstance ord repr any all divmod iter next super property staticmethod classmethod
    Exception ValueError TypeError KeyError IndexError LookupError ZeroDivisionError ArithmeticError
    OverflowError RuntimeError NotImplementedError AttributeError StopIteration NotImplemented
""".split())

METHODS = set("""
    __init__ __eq__ __repr__ __str__ __len__ __enter__ __exit__ __call__ __iter__
""".split())

BARRED = re.compile(r"""\b(type|typing|typing_extensions|enum|Enum|IntEnum|StrEnum|Flag|IntFlag|Generic|Protocol
    |ABC|ABCMeta|namedtuple|NamedTuple|TypedDict|TYPE_CHECKING|abstractmethod)\b
    |dataclass|overload|contextmanager""", re.VERBOSE)

BUILTIN_METHODS = set("""
    append clear copy count endswith extend find get index insert isalnum isalpha isdigit islower isspace isupper items
    join keys ljust lower lstrip partition pop remove replace reverse rfind rjust rpartition rsplit rstrip setdefault
    split splitlines startswith strip update upper values zfill bit_length title capitalize swapcase casefold center
    expandtabs removeprefix removesuffix rindex isascii isdecimal isnumeric istitle isidentifier isprintable
""".split())

# Names that nothing may have; those of builtins are looked for by themselves.
BARRED_NAMES = set("""
    register mro elements open input version_info with_traceback add_note attrgetter breakpoint builtins compile
    copyright credits delattr dir eval exec exit gc getattr globals hasattr help id importlib license locals
    methodcaller os quit setattr super type vars sys property staticmethod classmethod args
""".split())

# These take a list, not a generator, where a class has an __eq__.
TAKE_A_LIST = {"any", "all", "min", "max", "sum", "sorted"}

# These are iterated over where they stand.
AT_ONCE = {"zip", "enumerate", "reversed", "range"}
TAKE_AT_ONCE = {"list", "tuple", "dict", "sorted", "sum", "any", "all", "enumerate", "zip", "min", "max"}

AT_MODULE_LEVEL = (ast.ImportFrom, ast.FunctionDef, ast.ClassDef, ast.Assign)
NOT_ALLOWED = (ast.Global, ast.AsyncFunctionDef, ast.AsyncFor, ast.AsyncWith, ast.Await, ast.Div, ast.MatMult)


def sources():
    for path in sorted(PACKAGE.glob("*.py")):
        yield path, path.read_text(encoding="utf-8")


def trees():
    """Each file as Python reads it, by its name without the ending."""
    return {path.stem: ast.parse(text, path.name) for path, text in sources()}


def bound_names(tree):
    """Every name that the file gives a meaning of its own."""
    for node in ast.walk(tree):
        if isinstance(node, (ast.FunctionDef, ast.ClassDef)):
            yield node.name
        elif isinstance(node, ast.arg):
            yield node.arg
        elif isinstance(node, ast.alias):
            yield node.asname or node.name
        elif isinstance(node, ast.Name) and not isinstance(node.ctx, ast.Load):
            yield node.id


def functions_of(tree):
    return [node for node in ast.walk(tree) if isinstance(node, (ast.FunctionDef, ast.Lambda))]


def local_names(function):
    """The parameters and local variables of a function."""
    for node in ast.walk(function):
        if isinstance(node, ast.arg):
            yield node.arg
        elif isinstance(node, ast.Name) and not isinstance(node.ctx, ast.Load):
            yield node.id


def classes_of(files):
    return [node for tree in files.values() for node in tree.body if isinstance(node, ast.ClassDef)]


def methods_of(node):
    return [part for part in node.body if isinstance(part, ast.FunctionDef)]


def decorators_of(method):
    return [ast.unparse(part) for part in method.decorator_list]


def assigned_attributes(files):
    return {node.attr for tree in files.values() for node in ast.walk(tree)
            if isinstance(node, ast.Attribute) and isinstance(node.ctx, ast.Store)}


def error_names(files):
    """The names of the package's own error classes."""
    return {node.name for node in files["errors"].body if isinstance(node, ast.ClassDef)}


def parents_of(tree):
    return {child: node for node in ast.walk(tree) for child in ast.iter_child_nodes(node)}


def called_name(node):
    return node.func.id if isinstance(node, ast.Call) and isinstance(node.func, ast.Name) else None


class LanguageTest(unittest.TestCase):
    def test_the_folder_holds_source_files_only(self):
        names = {path.name for path in PACKAGE.iterdir()} - {"__pycache__"}
        self.assertIn("__init__.py", names)
        for name in names:
            self.assertRegex(name, r"\A[a-z][a-z0-9_]*\.py\Z|\A__init__\.py\Z")

    def test_characters_lines_and_words(self):
        for path, text in sources():
            with self.subTest(path.name):
                self.assertRegex(text, r"\A[ -~\n]*\Z")
                self.assertLessEqual(len(text.splitlines()), 400)
                self.assertLessEqual(max(len(line) for line in text.splitlines()), 120)
                self.assertIsNone(BARRED.search(text))

    def test_functions_are_short(self):
        for stem, tree in trees().items():
            for node in ast.walk(tree):
                if isinstance(node, ast.FunctionDef):
                    self.assertLessEqual(node.end_lineno - node.lineno + 1, 40, (stem, node.name))

    def test_module_level(self):
        for stem, tree in trees().items():
            rest = tree.body[1:] if ast.get_docstring(tree) is not None else tree.body
            for node in rest:
                self.assertIsInstance(node, AT_MODULE_LEVEL, (stem, node.lineno))

    def test_imports_name_the_file_that_defines_the_name(self):
        for stem, tree in trees().items():
            for node in ast.walk(tree):
                self.assertNotIsInstance(node, ast.Import, stem)
                if isinstance(node, ast.ImportFrom):
                    self.assertEqual(node.level, 0, stem)
                    self.assertRegex(node.module, r"\Asortcuts\.[a-z_]+\Z", stem)
                    source = node.module.partition(".")[2]
                    self.assert_defines(source, [alias.name for alias in node.names])

    def test_no_two_files_import_from_each_other(self):
        left = {}
        for stem, tree in trees().items():
            modules = [node.module for node in ast.walk(tree) if isinstance(node, ast.ImportFrom)]
            left[stem] = {module.partition(".")[2] for module in modules}
        while left:
            free = [stem for stem in left if not left[stem] & set(left)]
            self.assertTrue(free, f"a circle of imports among {sorted(left)}")
            left = {stem: left[stem] for stem in left if stem not in free}

    def assert_defines(self, stem, names):
        tree = ast.parse((PACKAGE / f"{stem}.py").read_text(encoding="utf-8"))
        defined = [node.name for node in tree.body if isinstance(node, (ast.FunctionDef, ast.ClassDef))]
        defined += [target.id for node in tree.body if isinstance(node, ast.Assign) for target in node.targets]
        self.assertLessEqual(set(names), set(defined))

    def test_names(self):
        for stem, tree in trees().items():
            own = set(bound_names(tree))
            for name in own - METHODS:
                self.assertRegex(name, r"\A[A-Za-z][A-Za-z0-9_]*\Z", stem)
            self.assertEqual(own & set(dir(builtins)), set(), stem)
            read = {node.id for node in ast.walk(tree) if isinstance(node, ast.Name)}
            self.assertLessEqual(read - own, BUILTINS, stem)

    def test_local_names_are_no_names_of_the_file(self):
        for stem, tree in trees().items():
            taken = {alias.name for node in tree.body if isinstance(node, ast.ImportFrom) for alias in node.names}
            taken |= {node.name for node in tree.body if isinstance(node, (ast.ClassDef, ast.FunctionDef))}
            for function in functions_of(tree):
                self.assertEqual(set(local_names(function)) & taken, set(), stem)

    def test_methods_that_are_called(self):
        files = trees()
        own = {node.name for tree in files.values() for part in ast.walk(tree) if isinstance(part, ast.ClassDef)
               for node in part.body if isinstance(node, ast.FunctionDef)}
        for stem, tree in files.items():
            for node in ast.walk(tree):
                if isinstance(node, ast.Call) and isinstance(node.func, ast.Attribute):
                    self.assertIn(node.func.attr, BUILTIN_METHODS | own, (stem, node.lineno))

    def test_ranges_and_the_like_are_iterated_at_once(self):
        for stem, tree in trees().items():
            allowed = set()
            for node in ast.walk(tree):
                if isinstance(node, (ast.For, ast.comprehension)):
                    allowed.add(node.iter)
                elif called_name(node) in TAKE_AT_ONCE or called_name(node) == "reversed":
                    allowed.update(node.args)
            for node in ast.walk(tree):
                if called_name(node) in AT_ONCE:
                    self.assertIn(node, allowed, (stem, node.lineno))

    def test_parameters_and_decorators(self):
        for stem, tree in trees().items():
            for node in functions_of(tree):
                self.assertEqual(node.args.posonlyargs, [], (stem, node.lineno))
            for node in ast.walk(tree):
                if isinstance(node, ast.FunctionDef) and node in tree.body:
                    self.assertEqual(node.decorator_list, [], (stem, node.lineno))

    def test_decorators_of_methods(self):
        for node in classes_of(trees()):
            names = {method.name for method in methods_of(node)}
            allowed = {"property", "staticmethod", "classmethod"} | {f"{name}.setter" for name in names}
            for method in methods_of(node):
                self.assertLessEqual(set(decorators_of(method)), allowed, (node.name, method.name))
                self.assertLessEqual(len(method.decorator_list), 1)

    def test_methods_properties_and_attributes_have_names_of_their_own(self):
        files = trees()
        kinds = {}
        for node in classes_of(files):
            for method in methods_of(node):
                marks = decorators_of(method)
                kind = marks[0].partition(".")[2] or marks[0] if marks else "method"
                kinds.setdefault(method.name, set()).add("property" if kind == "setter" else kind)
        for name, found in kinds.items():
            self.assertEqual(len(found), 1, name)
            self.assertNotIn(name, BUILTIN_METHODS)
        plain = {name for name, found in kinds.items() if found != {"property"}}
        self.assertEqual(plain & assigned_attributes(files), set())

    def test_no_method_is_defined_twice(self):
        for node in classes_of(trees()):
            names = [method.name for method in methods_of(node) if not decorators_of(method)[:1] == [f"{method.name}.setter"]]
            self.assertEqual(len(names), len(set(names)), node.name)

    def test_what_double_underscore_methods_return(self):
        for node in classes_of(trees()):
            for method in methods_of(node):
                if method.name in ("__len__", "__str__", "__repr__"):
                    self.assertIsInstance(method.body[-1], ast.Return)
                    for part in ast.walk(method):
                        if isinstance(part, ast.Return):
                            self.assert_plain_return(method.name, part.value)

    def assert_plain_return(self, name, value):
        if name == "__len__":
            self.assertEqual(called_name(value), "len")
        elif not isinstance(value, ast.JoinedStr) and called_name(value) not in ("str", "repr"):
            self.assertEqual(value.func.attr, "join")
            self.assertIsInstance(value.func.value, ast.Constant)

    def test_super_is_asked_for_a_method_only(self):
        for stem, tree in trees().items():
            parents = parents_of(tree)
            for node in ast.walk(tree):
                if called_name(node) == "super":
                    self.assertIsInstance(parents[node], ast.Attribute, stem)
                    self.assertIsInstance(parents[parents[node]], ast.Call, stem)

    def test_errors_are_created_where_they_are_raised_and_caught_by_their_names(self):
        files = trees()
        own = error_names(files)
        for stem, tree in files.items():
            for node in ast.walk(tree):
                if isinstance(node, ast.Raise):
                    self.assertIn(called_name(node.exc), own, (stem, node.lineno))
                elif isinstance(node, ast.ExceptHandler):
                    names = node.type.elts if isinstance(node.type, ast.Tuple) else [node.type]
                    self.assertLessEqual({name.id for name in names}, own, (stem, node.lineno))

    def test_lists_instead_of_generators(self):
        for stem, tree in trees().items():
            for node in ast.walk(tree):
                if called_name(node) in TAKE_A_LIST:
                    for given in node.args:
                        self.assertNotIsInstance(given, ast.GeneratorExp, (stem, node.lineno))

    def test_lists_and_dicts_at_module_level_are_only_read(self):
        for stem, tree in trees().items():
            parents = parents_of(tree)
            kept = {node.targets[0].id for node in tree.body
                    if isinstance(node, ast.Assign) and isinstance(node.value, (ast.Dict, ast.List))}
            for node in ast.walk(tree):
                if isinstance(node, ast.Name) and node.id in kept and isinstance(node.ctx, ast.Load):
                    self.assertIsInstance(parents[node], (ast.Subscript, ast.Compare), (stem, node.lineno))

    def test_barred_names(self):
        for stem, tree in trees().items():
            names = set(bound_names(tree))
            names |= {node.attr for node in ast.walk(tree) if isinstance(node, ast.Attribute)}
            names |= {node.arg for node in ast.walk(tree) if isinstance(node, ast.keyword)}
            self.assertEqual(names & BARRED_NAMES, set(), stem)

    def test_strings(self):
        for stem, tree in trees().items():
            for node in ast.walk(tree):
                if isinstance(node, ast.Constant) and isinstance(node.value, str):
                    self.assertNotIn("%", node.value, (stem, node.lineno))

    def test_statements_and_expressions(self):
        for stem, tree in trees().items():
            for node in ast.walk(tree):
                self.assertNotIsInstance(node, NOT_ALLOWED, stem)
                if isinstance(node, ast.Constant):
                    self.assertNotIsInstance(node.value, (float, complex), stem)
                if isinstance(node, ast.Compare):
                    self.assert_plain_is(node)

    def assert_plain_is(self, node):
        for sign, right in zip(node.ops, node.comparators):
            if isinstance(sign, (ast.Is, ast.IsNot)):
                self.assertIsInstance(right, ast.Constant)
                self.assertIn(right.value, (None, True, False))


if __name__ == "__main__":
    unittest.main()
