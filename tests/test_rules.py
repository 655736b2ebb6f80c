"""The files of the package held against the rules for its language, as far as their text shows it."""

import ast
import builtins
import pathlib
import re
import unittest

PACKAGE = pathlib.Path(__file__).resolve().parent.parent / "promptyard"

LIBRARY = {
    "heapq": {"heappush", "heappop", "heapify", "heapreplace", "heappushpop"},
    "math": {"gcd", "lcm", "isqrt", "comb", "perm", "factorial"},
    "itertools": {
        "product", "combinations", "permutations", "chain", "accumulate", "pairwise", "islice", "zip_longest",
    },
    "collections": {"defaultdict", "deque"},
}

BUILTINS = set(
    "len range enumerate zip min max sum abs sorted reversed int str bool list tuple dict set frozenset isinstance ord"
    " repr any all divmod pow getattr hasattr setattr iter next map type super property staticmethod classmethod"
    " Exception ValueError TypeError KeyError IndexError LookupError ZeroDivisionError ArithmeticError OverflowError"
    " RuntimeError NotImplementedError AttributeError StopIteration NotImplemented".split()
)

METHODS = set(
    "append clear copy count endswith extend find get index insert isalnum isalpha isdigit islower isspace isupper items"
    " join keys ljust lower lstrip partition pop remove replace reverse rfind rjust rpartition rsplit rstrip setdefault"
    " split splitlines startswith strip update upper values zfill bit_length title capitalize swapcase casefold center"
    " expandtabs removeprefix removesuffix rindex isascii isdecimal isnumeric istitle isidentifier isprintable translate"
    " sort format add discard appendleft popleft extendleft rotate".split()
)

DOUBLES = set(
    "__init__ __eq__ __repr__ __str__ __len__ __enter__ __exit__ __call__ __iter__ __lt__ __le__ __gt__ __ge__ __ne__".split()
)

NOWHERE = re.compile(
    r"\b(typing|typing_extensions|enum|Enum|IntEnum|StrEnum|Flag|IntFlag|Generic|Protocol|ABC|ABCMeta|namedtuple"
    r"|NamedTuple|TypedDict|TYPE_CHECKING|abstractmethod)\b|dataclass|overload|contextmanager|_wall|_WallAttr"
)

NO_NAMES = set(
    "register mro elements open input law version_info with_traceback add_note attrgetter breakpoint builtins compile"
    " copyright credits delattr dir eval exec exit gc globals help id importlib license locals methodcaller os quit vars sys"
    .split()
)

STATEMENTS = (
    ast.Assign, ast.AugAssign, ast.AnnAssign, ast.If, ast.While, ast.For, ast.Return, ast.Break, ast.Continue, ast.Pass,
    ast.Raise, ast.Assert, ast.Delete, ast.Nonlocal, ast.Global, ast.Match, ast.With, ast.Try, ast.Expr, ast.FunctionDef,
    ast.ClassDef, ast.ImportFrom,
)

INTERFACE = {
    "errors": "PromptError BadFlag BadText BadPlay BadNames BadLength BadIndex NotTaken Failed Unexpected BadModule BadKey"
    " BadOutput BadOptions BadSources",
    "checker": "check check_error detail_free difference_text indented least_flags",
    "outputs": "least_taken least_refused parted is_alike beyond shared least_with alike_groups number_taken nth_taken"
    " index_of",
    "texts": "levelled parsed examples_of joined error_of Example Comment",
    "scripts": "script_of",
    "plays": "is_play acted error_text traceback_text ended",
    "running": "Test test_of Runner succeeds",
    "finding": "is_module find_tests tested",
    "judging": "text_parted idle_examples",
    "rewriting": "rewritten least_options directed",
}

# The methods that the interface lists for classes.
LISTED = {
    "Example": "__init__ __eq__", "Comment": "__init__ __eq__", "Test": "__init__ examples names shown",
    "Runner": "__init__ run run_strictly total counts merge summary",
}


def sources():
    """The text of each file of the package, by its name without the ending."""
    return {path.stem: path.read_text(encoding="utf-8") for path in sorted(PACKAGE.glob("*.py"))}


TEXTS = sources()
TREES = {name: ast.parse(text) for name, text in TEXTS.items()}


def nodes(*kinds):
    """All nodes of some kinds, with the names of their files and their lines."""
    for name, tree in TREES.items():
        for node in ast.walk(tree):
            if isinstance(node, kinds):
                yield f"{name}.py:{getattr(node, 'lineno', 0)}", node


def docstrings():
    """The ids of the nodes that are docstrings."""
    found = set()
    for _, node in nodes(ast.Module, ast.ClassDef, ast.FunctionDef):
        if ast.get_docstring(node) is not None:
            found.add(id(node.body[0].value))
    return found


def bound_names():
    """All names that are bound, with their places."""
    for place, node in nodes(ast.FunctionDef, ast.ClassDef, ast.arg, ast.Name, ast.ExceptHandler):
        if isinstance(node, ast.Name):
            if isinstance(node.ctx, ast.Store):
                yield place, node.id
        elif isinstance(node, ast.arg):
            yield place, node.arg
        elif node.name is not None:
            yield place, node.name


class Files(unittest.TestCase):
    def test_there_is_nothing_but_files_with_plain_names(self):
        for path in PACKAGE.iterdir():
            if path.name != "__pycache__":
                self.assertRegex(path.name, r"^(__init__|__main__|[a-z][a-z0-9_]*)\.py$")
                self.assertNotIn(path.stem, set(dir(builtins)) | {"test", "tests", "testing", "site", "conftest"})
        self.assertIn("__init__", TEXTS)

    def test_sizes_and_signs(self):
        for name, text in TEXTS.items():
            self.assertRegex(text, r"\A[\n -~]*\Z", name)
            self.assertLessEqual(len(text.splitlines()), 399, name)
            for number, line in enumerate(text.splitlines(), 1):
                self.assertLessEqual(len(line), 120, (name, number))
        for place, node in nodes(ast.FunctionDef):
            self.assertLessEqual(node.end_lineno - node.lineno + 1, 40, place)

    def test_the_interface_stands_in_its_files(self):
        for name, words in INTERFACE.items():
            defined = {node.name for node in TREES[name].body if isinstance(node, (ast.FunctionDef, ast.ClassDef))}
            self.assertLessEqual(set(words.split()), defined)

    def test_the_methods_that_are_listed_stand_in_their_classes(self):
        found = {node.name: {part.name for part in node.body if isinstance(part, ast.FunctionDef)} for _, node in nodes(ast.ClassDef)}
        for name, words in LISTED.items():
            self.assertLessEqual(set(words.split()), found[name])

    def test_each_file_and_function_and_class_tells_what_it_is_for(self):
        for place, node in nodes(ast.Module, ast.ClassDef, ast.FunctionDef):
            if not isinstance(node, ast.FunctionDef) or node.name not in DOUBLES | {"look"}:
                self.assertTrue(ast.get_docstring(node), place)


class Imports(unittest.TestCase):
    def test_they_name_what_the_file_itself_defines(self):
        for place, node in nodes(ast.Import, ast.ImportFrom):
            self.assertIsInstance(node, ast.ImportFrom, place)
            self.assertEqual(node.level, 0, place)
            for name in node.names:
                self.assertIsNone(name.asname, place)
                if node.module in LIBRARY:
                    self.assertIn(name.name, LIBRARY[node.module], place)
                else:
                    package, _, module = node.module.partition(".")
                    self.assertEqual(package, "promptyard", place)
                    self.assertIn(name.name, top_names(module), place)

    def test_they_stand_at_the_top(self):
        for name, tree in TREES.items():
            kinds = [isinstance(node, ast.ImportFrom) for node in tree.body if not isinstance(node, ast.Expr)]
            self.assertEqual(kinds, sorted(kinds, reverse=True), name)

    def test_there_is_no_circle(self):
        ahead = {
            name: {
                node.module.partition(".")[2]
                for node in tree.body
                if isinstance(node, ast.ImportFrom) and node.module.startswith("promptyard.")
            }
            for name, tree in TREES.items()
        }
        while ahead:
            free = [name for name, needs in ahead.items() if not needs & set(ahead)]
            self.assertTrue(free, ahead)
            for name in free:
                del ahead[name]


def top_names(module):
    """The names that a file binds itself at its module level."""
    found = set()
    for node in TREES[module].body:
        if isinstance(node, (ast.FunctionDef, ast.ClassDef)):
            found.add(node.name)
        elif isinstance(node, ast.Assign):
            found.update(target.id for target in node.targets)
    return found


class Code(unittest.TestCase):
    def test_module_level(self):
        for name, tree in TREES.items():
            bound = []
            for node in tree.body:
                self.assertIsInstance(node, (ast.Expr, ast.ImportFrom, ast.FunctionDef, ast.ClassDef, ast.Assign), name)
                if isinstance(node, ast.Assign):
                    self.assertEqual(len(node.targets), 1, (name, node.lineno))
                    self.assertIsInstance(node.targets[0], ast.Name, (name, node.lineno))
                    for part in ast.walk(node.value):
                        self.assertNotIsInstance(part, (ast.Call, ast.Set, ast.ListComp, ast.DictComp), (name, node.lineno))
                    bound.append(node.targets[0].id)
                elif isinstance(node, ast.ImportFrom):
                    bound.extend(name.name for name in node.names)
                elif not isinstance(node, ast.Expr):
                    bound.append(node.name)
            self.assertEqual(len(bound), len(set(bound)), name)

    def test_statements_and_expressions(self):
        for place, node in nodes(ast.stmt):
            self.assertIsInstance(node, STATEMENTS, place)
        for place, node in nodes(ast.Div, ast.MatMult, ast.Await, ast.AsyncFor, ast.Global):
            self.fail(place)
        for place, node in nodes(ast.Constant):
            self.assertNotIsInstance(node.value, (float, complex), place)
        for place, node in nodes(ast.Compare):
            for operator, side in zip(node.ops, node.comparators):
                if isinstance(operator, (ast.Is, ast.IsNot)):
                    self.assertIn(getattr(side, "value", side), (None, True, False), place)

    def test_no_decorators_and_no_annotations(self):
        for place, node in nodes(ast.FunctionDef, ast.ClassDef):
            self.assertEqual(node.decorator_list, [], place)
        for place, node in nodes(ast.arg):
            self.assertIsNone(node.annotation, place)

    def test_names(self):
        taken = set(dir(builtins)) | NO_NAMES
        for place, name in bound_names():
            self.assertRegex(name, r"^(_|_?[A-Za-z][A-Za-z0-9_]*|__[a-z]+__)$", place)
            self.assertNotIn(name, taken, place)
            if name.startswith("__"):
                self.assertIn(name, DOUBLES, place)

    def test_no_local_name_is_that_of_an_import_or_a_class(self):
        for name, tree in TREES.items():
            tops = {alias.name for node in tree.body if isinstance(node, ast.ImportFrom) for alias in node.names}
            tops |= {node.name for node in tree.body if isinstance(node, ast.ClassDef)}
            for node in ast.walk(tree):
                if isinstance(node, ast.arg):
                    self.assertNotIn(node.arg, tops, (name, node.lineno))
                elif isinstance(node, ast.Name) and isinstance(node.ctx, ast.Store):
                    self.assertNotIn(node.id, tops, (name, node.lineno))

    def test_builtins(self):
        for place, node in nodes(ast.Name):
            if isinstance(node.ctx, ast.Load) and hasattr(builtins, node.id):
                self.assertIn(node.id, BUILTINS, place)

    def test_methods_that_are_called(self):
        own = {part.name for _, node in nodes(ast.ClassDef) for part in node.body if isinstance(part, ast.FunctionDef)}
        for place, node in nodes(ast.Call):
            if isinstance(node.func, ast.Attribute):
                self.assertIn(node.func.attr, METHODS | own, place)

    def test_attributes(self):
        own = {part.name for _, node in nodes(ast.ClassDef) for part in node.body if isinstance(part, ast.FunctionDef)}
        stored = {node.attr for _, node in nodes(ast.Attribute) if isinstance(node.ctx, ast.Store)}
        for name in stored:
            self.assertNotIn(name, own)
            self.assertFalse(any(hasattr(kind, name) for kind in (str, int, dict, list, set, bytes)) and name not in (
                "count", "index", "title", "find", "get", "join", "lower", "upper", "split", "strip", "copy", "add"), name)
        for place, node in nodes(ast.Attribute):
            if isinstance(node.ctx, ast.Load):
                self.assertIn(node.attr, stored | own | METHODS, place)

    def test_strings_and_words(self):
        docs = docstrings()
        for place, node in nodes(ast.Constant):
            if isinstance(node.value, str) and id(node) not in docs:
                self.assertNotIn("%", node.value, place)
                self.assertNotRegex(node.value, NOWHERE, place)
        for name, text in TEXTS.items():
            self.assertNotRegex(re.sub(r'#[^"\n]*$|"""(?s:.*?)"""', "", text, flags=re.MULTILINE), NOWHERE, name)
            self.assertNotRegex(text, r"_wall|_WallAttr", name)

    def test_sets_are_kept_in_plain_local_names(self):
        for place, node in nodes(ast.For, ast.comprehension):
            self.assertNotIsInstance(node.iter, (ast.Set, ast.SetComp), place)
            if isinstance(node.iter, ast.Call):
                self.assertNotEqual(getattr(node.iter.func, "id", ""), "set", place)

    def test_what_stands_beside_classes_that_compare(self):
        for place, node in nodes(ast.Call):
            if isinstance(node.func, ast.Name) and node.func.id in ("any", "all", "min", "max", "sum", "sorted"):
                for argument in node.args:
                    self.assertNotIsInstance(argument, ast.GeneratorExp, place)
            if isinstance(node.func, ast.Attribute):
                self.assertNotEqual(node.func.attr, "sort", place)
        for place, node in nodes(ast.FunctionDef):
            if node.name == "__eq__":
                [told] = node.body
                self.assertIsInstance(told, ast.Return, place)
                self.assertIsInstance(told.value, ast.BoolOp, place)
                for part in told.value.values[1:]:
                    self.assertIsInstance(part, ast.Compare, place)

    def test_tables_have_no_functions_of_other_files(self):
        for name, tree in TREES.items():
            imported = {alias.name for node in tree.body if isinstance(node, ast.ImportFrom) for alias in node.names}
            for node in tree.body:
                if isinstance(node, ast.Assign) and isinstance(node.value, (ast.Dict, ast.List, ast.Tuple)):
                    for part in ast.walk(node.value):
                        self.assertNotIn(getattr(part, "id", None), imported, (name, node.lineno))

    def test_errors(self):
        for place, node in nodes(ast.ExceptHandler):
            self.assertIsNotNone(node.type, place)
            for kind in node.type.elts if isinstance(node.type, ast.Tuple) else [node.type]:
                self.assertNotIn(kind.id, ("Exception", "TypeError", "RuntimeError", "AttributeError"), place)
        for place, node in nodes(ast.Raise):
            self.assertTrue(node.exc is None or isinstance(node.exc, ast.Call), place)


if __name__ == "__main__":
    unittest.main()
