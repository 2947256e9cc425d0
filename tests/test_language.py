"""Those rules of ../shared/LANGUAGE.md that a look at the syntax can check, for every file of the package."""

import ast
import builtins
import pathlib
import re
import unittest

PACKAGE = pathlib.Path(__file__).resolve().parent.parent / "crossparity"

BUILTINS = set(
    """len range enumerate zip min max sum abs sorted reversed int str bool bytes list tuple dict set frozenset
    isinstance ord repr any all divmod Exception ValueError TypeError KeyError IndexError LookupError
    ZeroDivisionError ArithmeticError OverflowError RuntimeError NotImplementedError AttributeError StopIteration
    NotImplemented iter next super property staticmethod classmethod""".split()
)
METHODS = set(
    """append clear copy count endswith extend find get index insert isalnum isalpha isdigit islower isspace isupper
    items join keys ljust lower lstrip partition pop remove replace reverse rfind rjust rpartition rsplit rstrip
    setdefault split splitlines startswith strip update upper values zfill bit_length add discard""".split()
)
DUNDERS = set("__init__ __eq__ __repr__ __str__ __len__ __iter__".split())
BARRED_NODES = (
    ast.Global, ast.AsyncFunctionDef, ast.AsyncFor, ast.AsyncWith, ast.Await, ast.Import, ast.Div, ast.MatMult,
    ast.GeneratorExp,
)
BARRED_WORDS = set(
    """type typing typing_extensions enum Enum IntEnum StrEnum Flag IntFlag Generic Protocol ABC ABCMeta namedtuple
    NamedTuple TypedDict TYPE_CHECKING abstractmethod""".split()
)
BARRED_NAMES = set(
    """register mro elements open input version_info with_traceback add_note attrgetter breakpoint builtins compile
    copyright credits delattr dir eval exec exit gc getattr globals hasattr help id importlib license locals
    methodcaller os quit setattr type vars""".split()
)


def files():
    return sorted(PACKAGE.glob("*.py"))


def tree_of(path):
    return ast.parse(path.read_text(), str(path))


def nodes(kind):
    """All nodes of a kind in the package, each with a place to report."""
    for path in files():
        for node in ast.walk(tree_of(path)):
            if isinstance(node, kind):
                yield f"{path.name}:{getattr(node, 'lineno', 0)}", node


def bound_names(tree):
    """All names that a file binds, at any level."""
    bound = set()
    for node in ast.walk(tree):
        if isinstance(node, ast.Name) and not isinstance(node.ctx, ast.Load):
            bound.add(node.id)
        elif isinstance(node, (ast.FunctionDef, ast.ClassDef)):
            bound.add(node.name)
        elif isinstance(node, ast.arg):
            bound.add(node.arg)
        elif isinstance(node, ast.alias):
            bound.add(node.asname or node.name)
        elif isinstance(node, ast.ExceptHandler) and node.name:
            bound.add(node.name)
    return bound


def imported_names(tree):
    imports = [node for node in ast.walk(tree) if isinstance(node, ast.ImportFrom)]
    return {alias.asname or alias.name for node in imports for alias in node.names}


class FilesTest(unittest.TestCase):
    def test_the_folder_contains_only_plain_files(self):
        for path in PACKAGE.iterdir():
            if path.name != "__pycache__":
                self.assertRegex(path.name, r"^(__init__|[a-z][a-z0-9_]*)\.py$")
        self.assertTrue((PACKAGE / "__init__.py").is_file())

    def test_size_and_characters(self):
        for path in files():
            text = path.read_text()
            lines = text.split("\n")
            self.assertLessEqual(len(lines), 400, path.name)
            for at, line in enumerate(lines, start=1):
                self.assertLessEqual(len(line), 120, f"{path.name}:{at}")
                self.assertRegex(line, r"^[ -~]*$", f"{path.name}:{at}")

    def test_words(self):
        for path in files():
            words = set(re.findall(r"\w+", path.read_text()))
            self.assertEqual(words & BARRED_WORDS, set(), path.name)

    def test_functions_are_short(self):
        for place, node in nodes(ast.FunctionDef):
            self.assertLessEqual(node.end_lineno - node.lineno + 1, 40, place)


class ModuleLevelTest(unittest.TestCase):
    def test_statements(self):
        for path in files():
            for at, node in enumerate(tree_of(path).body):
                docstring = at == 0 and isinstance(node, ast.Expr) and isinstance(node.value, ast.Constant)
                plain = (ast.ImportFrom, ast.FunctionDef, ast.ClassDef, ast.Assign)
                self.assertTrue(docstring or isinstance(node, plain), f"{path.name}:{node.lineno}")

    def test_each_name_is_bound_once(self):
        for path in files():
            names = []
            for node in tree_of(path).body:
                if isinstance(node, ast.ImportFrom):
                    names += [alias.asname or alias.name for alias in node.names]
                elif isinstance(node, (ast.FunctionDef, ast.ClassDef)):
                    names.append(node.name)
                elif isinstance(node, ast.Assign):
                    names += [target.id for target in node.targets]
            self.assertEqual(len(names), len(set(names)), path.name)

    def test_imports_name_the_file_that_defines_the_name(self):
        for place, node in nodes(ast.ImportFrom):
            self.assertEqual(node.level, 0, place)
            self.assertRegex(node.module, r"^crossparity\.[a-z0-9_]+$", place)
            source = tree_of(PACKAGE / (node.module.split(".")[1] + ".py"))
            kinds = (ast.FunctionDef, ast.ClassDef)
            defined = {item.name for item in source.body if isinstance(item, kinds)}
            defined |= {item.targets[0].id for item in source.body if isinstance(item, ast.Assign)}
            for alias in node.names:
                self.assertIn(alias.name, defined, place)

    def test_no_two_files_import_from_each_other(self):
        needs = {}
        for path in files():
            imports = [node for node in tree_of(path).body if isinstance(node, ast.ImportFrom)]
            needs[path.stem] = {node.module.split(".")[1] for node in imports}
        while needs:
            free = [name for name in needs if not needs[name] & set(needs)]
            self.assertNotEqual(free, [], f"these import from each other: {sorted(needs)}")
            for name in free:
                del needs[name]

    def test_every_import_is_used(self):
        for path in files():
            tree = tree_of(path)
            used = {node.id for node in ast.walk(tree) if isinstance(node, ast.Name)}
            self.assertEqual(imported_names(tree) - used, set(), path.name)

    def test_no_inner_name_is_that_of_a_class_or_an_import(self):
        for path in files():
            tree = tree_of(path)
            outer = imported_names(tree) | {node.name for node in tree.body if isinstance(node, ast.ClassDef)}
            for node in ast.walk(tree):
                if isinstance(node, ast.FunctionDef):
                    inner = bound_names(node) - {node.name}
                    self.assertEqual(inner & outer, set(), f"{path.name}:{node.lineno}")


class SyntaxTest(unittest.TestCase):
    def test_barred_syntax(self):
        for place, node in nodes(BARRED_NODES):
            self.fail(f"{place}: {type(node).__name__}")

    def test_classes_stand_at_module_level_and_have_no_decorators(self):
        for place, node in nodes((ast.FunctionDef, ast.ClassDef)):
            self.assertEqual(node.decorator_list, [], place)
            inner = [item for item in ast.walk(node) if isinstance(item, ast.ClassDef) and item != node]
            self.assertEqual(inner, [], place)

    def test_names(self):
        for path in files():
            for name in bound_names(tree_of(path)):
                if name not in DUNDERS:
                    self.assertRegex(name, r"^[A-Za-z][A-Za-z0-9_]*$", path.name)
                    self.assertNotIn(name, set(dir(builtins)) | BARRED_NAMES, path.name)

    def test_builtins(self):
        for path in files():
            tree = tree_of(path)
            known = bound_names(tree) | BUILTINS
            for node in ast.walk(tree):
                if isinstance(node, ast.Name):
                    self.assertIn(node.id, known, f"{path.name}:{node.lineno}")

    def test_methods_that_are_called(self):
        own = {node.name for place, node in nodes(ast.FunctionDef)}
        for place, node in nodes(ast.Call):
            if isinstance(node.func, ast.Attribute):
                self.assertIn(node.func.attr, METHODS | own, place)

    def test_constants(self):
        for place, node in nodes(ast.Constant):
            self.assertNotIsInstance(node.value, (float, complex), place)
            if isinstance(node.value, str):
                self.assertNotIn("%", node.value, place)

    def test_powers_have_a_literal_exponent(self):
        for place, node in nodes(ast.BinOp):
            if isinstance(node.op, ast.Pow):
                self.assertIsInstance(node.right, ast.Constant, place)
                self.assertIn(node.right.value, range(65), place)

    def test_is(self):
        for place, node in nodes(ast.Compare):
            for sign, right in zip(node.ops, node.comparators):
                if isinstance(sign, (ast.Is, ast.IsNot)):
                    self.assertTrue(isinstance(right, ast.Constant) and right.value in (None, True, False), place)

    def test_raise_creates_its_error_on_the_spot(self):
        for place, node in nodes(ast.Raise):
            on_the_spot = isinstance(node.exc, ast.Call) and isinstance(node.exc.func, ast.Name)
            self.assertTrue(node.exc is None or on_the_spot, place)

    def test_only_own_errors_and_plain_ones_are_caught(self):
        own = {node.name for place, node in nodes(ast.ClassDef)}
        for place, node in nodes(ast.ExceptHandler):
            self.assertIsInstance(node.type, ast.Name, place)
            self.assertIn(node.type.id, own | {"KeyError", "ZeroDivisionError"}, place)

    def test_escapes(self):
        for path in files():
            self.assertEqual(re.findall(r"\\[^nt\\'\"]", path.read_text()), [], path.name)

    def test_comprehensions_are_short_and_stand_in_functions(self):
        for place, node in nodes((ast.ListComp, ast.DictComp, ast.SetComp)):
            self.assertLessEqual(len(node.generators), 6, place)
            self.assertLessEqual(sum(len(part.ifs) for part in node.generators), 12, place)
        for path in files():
            for node in tree_of(path).body:
                if not isinstance(node, (ast.FunctionDef, ast.ClassDef)):
                    inner = [item for item in ast.walk(node) if isinstance(item, (ast.ListComp, ast.DictComp))]
                    self.assertEqual(inner, [], f"{path.name}:{node.lineno}")


def called(node, names):
    """Whether a node calls a builtin, or a method, of one of these names."""
    if not isinstance(node, ast.Call):
        return False
    plain = isinstance(node.func, ast.Name) and node.func.id in names
    return plain or (isinstance(node.func, ast.Attribute) and node.func.attr in names)


def with_parents(path):
    """Each node of a file with the one that it stands in."""
    for node in ast.walk(tree_of(path)):
        for inner in ast.iter_child_nodes(node):
            yield inner, node


class PlacesTest(unittest.TestCase):
    """Where iterators and sets may stand."""

    def test_iterators_are_iterated_at_once(self):
        once = "zip enumerate reversed range items keys values".split()
        around = "list tuple dict sorted sum any all enumerate zip min max".split()
        for path in files():
            for node, parent in with_parents(path):
                if called(node, once):
                    looped = isinstance(parent, (ast.For, ast.comprehension)) and parent.iter == node
                    tested = isinstance(parent, ast.Compare) and isinstance(parent.ops[-1], (ast.In, ast.NotIn))
                    self.assertTrue(looped or tested or called(parent, around), f"{path.name}:{node.lineno}")

    def is_set(self, node):
        return isinstance(node, (ast.Set, ast.SetComp)) or (isinstance(node, ast.Call) and called(node, ["set"]))

    def test_sets_stand_where_they_may(self):
        for path in files():
            for node, parent in with_parents(path):
                if self.is_set(node):
                    stored = isinstance(parent, ast.Assign) and len(parent.targets) == 1
                    joined = isinstance(parent, ast.BinOp) and self.is_set(parent.left) and self.is_set(parent.right)
                    place = f"{path.name}:{node.lineno}"
                    self.assertTrue(stored or joined or called(parent, ["len", "sorted"]), place)

    def stored_sets(self, function):
        assigned = [node for node in ast.walk(function) if isinstance(node, ast.Assign)]
        return [node.targets[0].id for node in assigned if self.is_set(node.value)]

    def test_stored_sets_are_only_added_to_and_asked(self):
        for path in files():
            for function in [node for node in tree_of(path).body if isinstance(node, ast.FunctionDef)]:
                names = self.stored_sets(function)
                self.assertEqual(len(names), len(set(names)), f"{path.name}:{function.lineno}")
                for parent in ast.walk(function):
                    for node in ast.iter_child_nodes(parent):
                        if isinstance(node, ast.Name) and node.id in names and isinstance(node.ctx, ast.Load):
                            added = isinstance(parent, ast.Attribute) and parent.attr in ["add", "discard"]
                            asked = isinstance(parent, ast.Compare) or called(parent, ["len", "sorted"])
                            self.assertTrue(added or asked, f"{path.name}:{node.lineno}")


CHANGES = "append clear extend insert pop remove reverse setdefault update sort add discard".split()


def names_in(node):
    return {item.id for item in ast.walk(node) if isinstance(item, ast.Name)}


def base_name(node):
    """The name that an item, a slice or an attribute is read off, or None."""
    while isinstance(node, (ast.Subscript, ast.Attribute)):
        node = node.value
    return node.id if isinstance(node, ast.Name) else None


def names_changed(statements):
    """The names of all lists and dicts that these statements change."""
    changed = set()
    for node in [item for statement in statements for item in ast.walk(statement)]:
        if isinstance(node, ast.AugAssign):
            changed.add(base_name(node.target))
        elif isinstance(node, ast.Subscript) and not isinstance(node.ctx, ast.Load):
            changed.add(base_name(node))
        elif called(node, CHANGES) and isinstance(node.func, ast.Attribute):
            changed.add(base_name(node.func.value))
    return changed


class ChangesTest(unittest.TestCase):
    """What is changed, and where."""

    def test_a_loop_does_not_change_what_it_iterates_over(self):
        for place, node in nodes(ast.For):
            self.assertEqual(names_in(node.iter) & names_changed(node.body), set(), place)

    def test_a_comprehension_changes_nothing(self):
        for place, node in nodes((ast.ListComp, ast.DictComp, ast.SetComp)):
            self.assertEqual(names_changed([node]), set(), place)

    def test_what_is_added_to_a_list_does_not_read_that_list(self):
        for place, node in nodes(ast.AugAssign):
            self.assertNotIn(base_name(node.target), names_in(node.value), place)
        for place, node in nodes(ast.Call):
            if called(node, ["extend", "update"]):
                given = {name for argument in node.args for name in names_in(argument)}
                self.assertNotIn(base_name(node.func), given, place)

    def test_names_of_the_module_level_are_not_changed(self):
        for path in files():
            tree = tree_of(path)
            outer = imported_names(tree)
            outer |= {node.targets[0].id for node in tree.body if isinstance(node, ast.Assign)}
            functions = [node for node in tree.body if isinstance(node, (ast.FunctionDef, ast.ClassDef))]
            self.assertEqual(names_changed(functions) & outer, set(), path.name)

    def test_values_of_the_module_level_are_fixed(self):
        for path in files():
            for node in [node for node in tree_of(path).body if isinstance(node, ast.Assign)]:
                # No list and no dict: then no function can change one, by whatever name.
                inner = [item for item in ast.walk(node.value) if isinstance(item, (ast.List, ast.Dict, ast.Call))]
                self.assertEqual(inner, [], f"{path.name}:{node.lineno}")

    def test_comparing_two_objects_changes_nothing_and_returns(self):
        for place, node in nodes(ast.FunctionDef):
            if node.name == "__eq__":
                assigned = [item for item in ast.walk(node) if isinstance(item, (ast.Assign, ast.AugAssign))]
                self.assertEqual(assigned, [], place)
                self.assertEqual(names_changed(node.body), set(), place)
                self.assertIsInstance(node.body[-1], ast.Return, place)


def parameters_of_own():
    """The number of parameters of each own function and, without self, of each own class."""
    many = {}
    for path in files():
        for node in tree_of(path).body:
            if isinstance(node, ast.FunctionDef):
                many[node.name] = len(node.args.args)
            elif isinstance(node, ast.ClassDef):
                starts = [item for item in node.body if getattr(item, "name", "") == "__init__"]
                many[node.name] = len(starts[0].args.args) - 1 if starts else 0
    return many


class CallsTest(unittest.TestCase):
    """How functions are declared and called, and what is read off objects."""

    def test_parameters_are_plain(self):
        for place, node in nodes(ast.arguments):
            self.assertEqual((node.posonlyargs, node.kwonlyargs, node.vararg, node.kwarg), ([], [], None, None), place)
            self.assertEqual((node.defaults, node.kw_defaults), ([], []), place)

    def test_own_functions_have_different_names(self):
        names = [node.name for path in files() for node in tree_of(path).body if isinstance(node, ast.FunctionDef)]
        self.assertEqual(len(names), len(set(names)))

    def test_calls_of_own_functions_pass_what_these_take(self):
        many = parameters_of_own()
        for place, node in nodes(ast.Call):
            if isinstance(node.func, ast.Name) and node.func.id in many:
                self.assertEqual(len(node.args), many[node.func.id], place)
                self.assertEqual(node.keywords, [], place)
                self.assertEqual([item for item in node.args if isinstance(item, ast.Starred)], [], place)

    def test_functions_and_classes_are_called_or_stand_in_isinstance(self):
        many = parameters_of_own()
        for path in files():
            for node, parent in with_parents(path):
                own = isinstance(node, ast.Name) and node.id in set(many) | BUILTINS
                if own and not isinstance(parent, (ast.ClassDef, ast.ExceptHandler)):
                    place = f"{path.name}:{node.lineno}"
                    itself = isinstance(parent, ast.Call) and parent.func == node
                    asked = called(parent, ["isinstance"]) and parent.args[1] == node
                    kinds = isinstance(parent, ast.Tuple) and node.id in ["list", "tuple"]
                    self.assertTrue(itself or asked or kinds, place)

    def test_attributes_that_are_read_are_assigned_by_a_class(self):
        assigned = {node.attr for place, node in nodes(ast.Attribute) if isinstance(node.ctx, ast.Store)}
        for path in files():
            for node, parent in with_parents(path):
                method = isinstance(parent, ast.Call) and parent.func == node
                if isinstance(node, ast.Attribute) and not method:
                    self.assertIn(node.attr, assigned, f"{path.name}:{node.lineno}")
                    self.assertNotIn(node.attr, BARRED_NAMES | {"items", "keys", "values", "sort", "args"})

    def test_attributes_are_assigned_off_self_only(self):
        for place, node in nodes(ast.Attribute):
            if isinstance(node.ctx, ast.Store):
                self.assertEqual(base_name(node), "self", place)
