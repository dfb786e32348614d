"""The package keeps to the small part of Python that its rules (L1 to L28) tell, as far as its text shows it."""

import ast
import pathlib
import re
import unittest

PACKAGE = pathlib.Path(__file__).resolve().parent.parent / "letgostore"

STATEMENTS = (ast.Module, ast.FunctionDef, ast.ClassDef, ast.ImportFrom, ast.Assign, ast.AugAssign, ast.If, ast.While,
              ast.For, ast.Return, ast.Break, ast.Continue, ast.Pass, ast.Raise, ast.Expr)
EXPRESSIONS = (ast.Constant, ast.Name, ast.Attribute, ast.Subscript, ast.Slice, ast.Call, ast.List, ast.Tuple, ast.Dict,
               ast.BinOp, ast.UnaryOp, ast.BoolOp, ast.Compare, ast.IfExp, ast.ListComp)
SMALL_PARTS = (ast.comprehension, ast.arguments, ast.arg, ast.alias, ast.expr_context, ast.boolop, ast.unaryop,
               ast.cmpop, ast.Add, ast.Sub, ast.Mult, ast.FloorDiv, ast.Mod)
PYTHONS_OWN = """len range enumerate zip min max sum abs sorted reversed int str bool list tuple dict set frozenset
    isinstance ord repr any all divmod Exception ValueError KeyError""".split()
METHODS = """append clear copy count endswith extend find get index insert isalnum isalpha isdigit islower isspace
    isupper items join keys ljust lower lstrip partition pop remove replace reverse rfind rjust rpartition rsplit
    rstrip setdefault split splitlines startswith strip update upper values zfill bit_length""".split()
NOT_SAID = """type typing typing_extensions enum Enum IntEnum StrEnum Flag IntFlag Generic Protocol ABC ABCMeta
    namedtuple NamedTuple TypedDict TYPE_CHECKING abstractmethod""".split()
NOT_NAMED = """register mro elements open input version_info with_traceback add_note format format_map attrgetter
    breakpoint builtins compile copyright credits delattr dir eval exec exit gc getattr globals hasattr help id
    importlib license locals methodcaller os quit setattr super vars sys chr""".split()


def files():
    return sorted(PACKAGE.glob("*.py"))


TREES = {}


def trees():
    """Each file's tree, taken apart once."""
    for path in files():
        if path.name not in TREES:
            TREES[path.name] = ast.parse(path.read_text(encoding="utf-8"))
    return TREES


def nodes(*kinds):
    for name, tree in trees().items():
        for node in ast.walk(tree):
            if isinstance(node, kinds):
                yield name, node


def names_bound(tree):
    """All that the file's own text gives a name to."""
    for node in ast.walk(tree):
        if isinstance(node, (ast.FunctionDef, ast.ClassDef)):
            yield node.name
        elif isinstance(node, ast.arg):
            yield node.arg
        elif isinstance(node, ast.alias):
            yield node.asname or node.name
        elif isinstance(node, ast.Name) and isinstance(node.ctx, ast.Store):
            yield node.id


class Files(unittest.TestCase):
    def test_only_plain_files(self):
        others = [path for path in PACKAGE.iterdir() if path not in files() and path.name != "__pycache__"]
        self.assertEqual(others, [])
        self.assertIn(PACKAGE / "__init__.py", files())
        for path in files():
            self.assertRegex(path.name, r"^(__init__|[a-z][a-z0-9_]*)\.py$")

    def test_signs_and_sizes(self):
        for path in files():
            text = path.read_text(encoding="utf-8")
            self.assertRegex(text, r"\A[ -~\n]*\Z", path.name)
            lines = text.split("\n")
            self.assertLessEqual(len(lines), 400, path.name)
            self.assertLessEqual(max(len(line) for line in lines), 120, path.name)

    def test_functions_are_small(self):
        for name, node in nodes(ast.FunctionDef):
            self.assertLessEqual(node.end_lineno - node.lineno + 1, 40, (name, node.name))

    def test_words_that_stand_nowhere(self):
        for path in files():
            text = path.read_text(encoding="utf-8")
            self.assertEqual(set(re.findall(r"\w+", text)) & set(NOT_SAID), set(), path.name)
            self.assertNotRegex(text, "dataclass|overload|contextmanager")


class Forms(unittest.TestCase):
    def test_statements_and_expressions(self):
        for name, node in nodes(ast.AST):
            self.assertIsInstance(node, STATEMENTS + EXPRESSIONS + SMALL_PARTS, (name, getattr(node, "lineno", 0)))

    def test_values(self):
        for name, node in nodes(ast.Constant):
            self.assertIn(type(node.value), (int, str, bool, type(None)), (name, node.lineno))

    def test_functions_are_plain(self):
        for name, node in nodes(ast.FunctionDef):
            given = node.args
            self.assertEqual((given.vararg, given.kwarg, given.kwonlyargs, given.posonlyargs, node.decorator_list),
                             (None, None, [], [], []), (name, node.name))

    def test_one_target_and_no_else_behind_a_loop(self):
        for name, node in nodes(ast.Assign):
            self.assertEqual(len(node.targets), 1, (name, node.lineno))
            self.assertNotIsInstance(node.targets[0], (ast.Tuple, ast.List), (name, node.lineno))
        for name, node in nodes(ast.For, ast.While):
            self.assertEqual(node.orelse, [], (name, node.lineno))

    def test_one_walk_in_a_comprehension(self):
        for name, node in nodes(ast.ListComp):
            self.assertEqual(len(node.generators), 1, (name, node.lineno))
            self.assertLessEqual(len(node.generators[0].ifs), 1, (name, node.lineno))

    def test_is_stands_beside_none_true_false(self):
        for name, node in nodes(ast.Compare):
            if any(isinstance(op, (ast.Is, ast.IsNot)) for op in node.ops):
                self.assertIsInstance(node.comparators[0], ast.Constant, (name, node.lineno))

    def test_no_annotations(self):
        for name, node in nodes(ast.FunctionDef):
            self.assertEqual([node.returns] + [arg.annotation for arg in node.args.args],
                             [None] * (1 + len(node.args.args)), (name, node.name))

    def test_what_is_walked_on_the_spot(self):
        for name, node in nodes(ast.Call):
            if isinstance(node.func, ast.Name) and node.func.id in ("zip", "enumerate", "reversed", "range"):
                self.assertIn(id(node), self.walked(), (name, node.lineno))
            self.assertEqual(node.keywords, [], (name, node.lineno))

    def walked(self):
        return {id(node.iter) for tree in trees().values() for node in ast.walk(tree)
                if isinstance(node, (ast.For, ast.comprehension))}

    def test_what_a_loop_walks_is_not_changed_in_it(self):
        for name, node in nodes(ast.For):
            walked = ast.dump(node.iter)
            for inner in ast.walk(node):
                if isinstance(inner, ast.Call) and isinstance(inner.func, ast.Attribute):
                    self.assertNotEqual(ast.dump(inner.func.value), walked, (name, node.lineno))
                if isinstance(inner, (ast.Assign, ast.AugAssign)):
                    targets = inner.targets if isinstance(inner, ast.Assign) else [inner.target]
                    self.assertNotIn(walked.replace("Load", "Store"), [ast.dump(t) for t in targets],
                                     (name, node.lineno))

    def test_texts_and_sets(self):
        for name, node in nodes(ast.Constant):
            if isinstance(node.value, str):
                self.assertNotIn("%", node.value, (name, node.lineno))
        for name, node in nodes(ast.Call):
            self.assertNotIn(getattr(node.func, "id", ""), ("set", "frozenset"), (name, node.lineno))

    def test_imports_are_the_packages_own(self):
        drawn = {}
        for name, node in nodes(ast.ImportFrom):
            self.assertEqual((node.level, node.module.split(".")[0], node.col_offset), (0, "letgostore", 0))
            self.assertNotIn("*", [alias.name for alias in node.names])
            drawn.setdefault(name, set()).add(node.module.split(".")[1] + ".py")
        while drawn:
            free = [name for name in drawn if not drawn[name] & set(drawn)]
            self.assertNotEqual(free, [], "files that draw from one another")
            for name in free:
                del drawn[name]


class Names(unittest.TestCase):
    def test_plain_names(self):
        for path in files():
            for name in names_bound(ast.parse(path.read_text(encoding="utf-8"))):
                self.assertRegex(name, r"^([A-Za-z][A-Za-z0-9_]*|__init__)$", path.name)
                self.assertNotIn(name, dir(__builtins__) if not isinstance(__builtins__, dict) else __builtins__)
                self.assertNotIn(name, NOT_NAMED)

    def test_names_that_are_read_are_known(self):
        for path in files():
            tree = ast.parse(path.read_text(encoding="utf-8"))
            known = set(names_bound(tree)) | set(PYTHONS_OWN)
            read = {node.id for node in ast.walk(tree) if isinstance(node, ast.Name)}
            self.assertEqual(read - known, set(), path.name)

    def test_methods_are_listed_or_own(self):
        own = {node.name for name, node in nodes(ast.FunctionDef)}
        for name, node in nodes(ast.Call):
            if isinstance(node.func, ast.Attribute):
                self.assertIn(node.func.attr, set(METHODS) | own, (name, node.lineno))

    def test_no_local_is_called_like_a_class_or_an_import_of_its_file(self):
        for path_name, tree in trees().items():
            tops = {alias.name for node in tree.body if isinstance(node, ast.ImportFrom) for alias in node.names}
            tops |= {node.name for node in tree.body if isinstance(node, ast.ClassDef)}
            for node in ast.walk(tree):
                if isinstance(node, ast.FunctionDef):
                    self.assertEqual({name for name in names_bound(node) if name != node.name} & tops, set(), path_name)

    def test_what_stands_at_a_files_top_is_only_read(self):
        for path_name, tree in trees().items():
            kept = {node.targets[0].id for node in tree.body if isinstance(node, ast.Assign)
                    and isinstance(node.value, (ast.List, ast.Dict))}
            read = [node.value for node in ast.walk(tree) if isinstance(node, ast.Subscript)
                    and isinstance(node.ctx, ast.Load)]
            for node in ast.walk(tree):
                if isinstance(node, ast.Name) and node.id in kept and isinstance(node.ctx, ast.Load):
                    self.assertIn(node, read, (path_name, node.lineno))

    def test_values_of_objects_are_called_like_nothing_of_pythons_own(self):
        taken = {name for kind in (str, int, list, dict, set, bytes) for name in dir(kind)}
        methods = {inner.name for name, node in nodes(ast.ClassDef) for inner in node.body
                   if isinstance(inner, ast.FunctionDef)}
        for name, node in nodes(ast.Attribute):
            if isinstance(node.ctx, ast.Store):
                self.assertNotIn(node.attr, taken | methods, (name, node.lineno))
                self.assertIsInstance(node.value, ast.Name, (name, node.lineno))

    def test_a_name_is_bound_once_at_a_files_top(self):
        for path in files():
            tops = []
            for node in ast.parse(path.read_text(encoding="utf-8")).body:
                if isinstance(node, ast.Assign):
                    tops.append(node.targets[0].id)
                elif isinstance(node, ast.ImportFrom):
                    tops += [alias.name for alias in node.names]
                elif isinstance(node, (ast.FunctionDef, ast.ClassDef)):
                    tops.append(node.name)
            self.assertEqual(len(tops), len(set(tops)), path.name)


if __name__ == "__main__":
    unittest.main()
