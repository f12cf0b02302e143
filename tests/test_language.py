"""The rules of LANGUAGE.md, as far as they can be read off the code.

The package uses less than the rules allow, and this file checks the smaller part: kinds of statements and
expressions that are not in the lists below are refused, whether the rules allow them somewhere or not.
"""

import ast
import builtins
from pathlib import Path
from unittest import TestCase

ROOT = Path(__file__).resolve().parent.parent
FOLDER = ROOT / "surelyplan"
FILES = sorted(FOLDER.glob("*.py"))
TREES = {path.stem: ast.parse(path.read_text(encoding="utf-8")) for path in FILES}

NODES = (
    "Module", "Expr", "Constant", "ImportFrom", "alias", "ClassDef", "FunctionDef", "arguments", "arg", "Name", "Load",
    "Store", "Attribute", "Call", "If", "Return", "Raise", "Assign", "AugAssign", "For", "While", "Tuple", "List", "Dict",
    "ListComp", "DictComp", "SetComp", "comprehension", "IfExp", "BoolOp", "And", "Or", "UnaryOp", "Not", "USub",
    "BinOp", "Add", "Sub", "Mult", "Pow", "FloorDiv", "Mod", "LShift", "RShift", "BitAnd", "Compare", "Eq", "NotEq", "Lt",
    "LtE", "Gt", "GtE", "Is", "IsNot", "In", "NotIn", "Subscript", "Slice", "Break", "Continue", "Pass", "Starred",
    "With", "withitem", "JoinedStr", "FormattedValue",
)
BUILTINS = (
    "len", "range", "enumerate", "zip", "min", "max", "sum", "abs", "sorted", "reversed", "int", "str", "bool", "list",
    "tuple", "dict", "set", "isinstance", "ord", "repr", "any", "all", "divmod", "super", "ValueError",
)
LIBRARY = {"heapq": ("heappush", "heappop"), "math": ("gcd",), "itertools": ("product", "combinations", "permutations")}
BUILTIN_METHODS = ("append", "extend", "get", "index", "items", "values", "keys", "pop", "join", "setdefault")
SPECIAL = ("__init__", "__eq__", "__len__", "__enter__", "__exit__")
KINDS = (str, bytes, int, list, tuple, dict, set)
UNUSED = (
    "register", "mro", "elements", "open", "input", "law", "version_info", "with_traceback", "add_note", "attrgetter",
    "breakpoint", "builtins", "compile", "copyright", "credits", "delattr", "dir", "eval", "exec", "exit", "gc", "getattr",
    "globals", "hasattr", "help", "id", "importlib", "license", "locals", "methodcaller", "os", "quit", "setattr", "type",
    "vars", "sys", "typing", "enum", "dataclass",
)
BARRED_STARTS = ("_wall", "_pe_", "_dcw_", "_enum_", "_cm_", "_twin_re_", "_lay_", "_law_", "_stub_", "_sre", "_WallAttr")
BARRED_NAMES = ("_cold", "_tuplegetter", "_outside", "_record", "_written_out", "_member_names")
VIEWS = ("range", "zip", "enumerate", "reversed")
TAKERS = ("list", "tuple", "dict", "sorted", "sum", "any", "all", "enumerate", "zip", "min", "max", "permutations")


def walk(tree, kind):
    return [node for node in ast.walk(tree) if isinstance(node, kind)]


def functions(tree):
    return walk(tree, ast.FunctionDef)


def called(node):
    """The name of the function that a call calls, or an empty text."""
    return node.func.id if isinstance(node, ast.Call) and isinstance(node.func, ast.Name) else ""


def stored(node):
    """The names that are bound in a function or a comprehension."""
    names = {name.id for name in walk(node, ast.Name) if isinstance(name.ctx, ast.Store)}
    return names | {argument.arg for argument in walk(node, ast.arg)}


def top_names(tree):
    """The names that are bound at module level, each as often as it is."""
    names = []
    for node in tree.body:
        if isinstance(node, ast.ImportFrom):
            names += [name.name for name in node.names]
        elif isinstance(node, (ast.FunctionDef, ast.ClassDef)):
            names.append(node.name)
        elif isinstance(node, ast.Assign):
            names += [target.id for target in node.targets]
    return names


def parents(tree):
    return {child: node for node in ast.walk(tree) for child in ast.iter_child_nodes(node)}


def docstrings(tree):
    bodies = [tree] + walk(tree, (ast.FunctionDef, ast.ClassDef))
    first = [node.body[0] for node in bodies if node.body]
    return [node.value for node in first if isinstance(node, ast.Expr) and isinstance(node.value, ast.Constant)]


class Files(TestCase):

    def test_folder_contains_nothing_else(self):
        others = [path.name for path in FOLDER.iterdir() if path.suffix != ".py" and path.name != "__pycache__"]
        self.assertEqual([], others)
        for path in FILES:
            self.assertEqual(path.name, path.name.lower())
            self.assertNotIn(path.stem, dir(builtins))

    def test_lines(self):
        for path in FILES:
            text = path.read_text(encoding="utf-8")
            self.assertTrue(all(" " <= letter <= "~" or letter == "\n" for letter in text), path)
            self.assertLessEqual(len(text.split("\n")), 400, path)
            for line in text.split("\n"):
                self.assertLessEqual(len(line), 120, line)
                self.assertEqual(line.rstrip(), line)

    def test_words_that_stand_nowhere(self):
        for path in FILES:
            text = path.read_text(encoding="utf-8")
            for word in ("_wall", "_WallAttr", "dataclass", "overload", "contextmanager"):
                self.assertNotIn(word, text, path)

    def test_functions_are_small(self):
        for tree in TREES.values():
            for node in functions(tree):
                self.assertLessEqual(node.end_lineno - node.lineno + 1, 40, node.name)

    def test_each_file_and_public_part_says_what_it_is(self):
        for name, tree in TREES.items():
            self.assertTrue(ast.get_docstring(tree), name)
            for node in walk(tree, (ast.FunctionDef, ast.ClassDef)):
                if not node.name.startswith("_"):
                    self.assertTrue(ast.get_docstring(node), (name, node.name))


class Names(TestCase):

    def test_imports(self):
        for file, tree in TREES.items():
            for node in walk(tree, (ast.Import, ast.ImportFrom)):
                self.assertIn(node, tree.body)
                self.assertIsInstance(node, ast.ImportFrom)
                self.assertEqual(0, node.level)
                for name in node.names:
                    self.assertIsNone(name.asname)
                    if node.module in LIBRARY:
                        self.assertIn(name.name, LIBRARY[node.module])
                    else:
                        package, home = node.module.split(".")
                        self.assertEqual("surelyplan", package)
                        defined = [item for item in TREES[home].body if not isinstance(item, ast.ImportFrom)]
                        self.assertIn(name.name, top_names(ast.Module(defined, [])), file)

    def test_imports_stand_at_the_top(self):
        for tree in TREES.values():
            kinds = [isinstance(node, ast.ImportFrom) for node in tree.body[1:]]
            self.assertEqual(sorted(kinds, reverse=True), kinds)

    def test_no_two_files_import_from_each_other(self):
        uses = {
            file: {node.module.split(".")[-1] for node in walk(tree, ast.ImportFrom)} & set(TREES)
            for file, tree in TREES.items()
        }
        while uses:
            free = [file for file in uses if not uses[file] & set(uses)]
            self.assertTrue(free, uses)
            for file in free:
                del uses[file]

    def test_imports_are_used(self):
        for file, tree in TREES.items():
            read = {node.id for node in walk(tree, ast.Name) if isinstance(node.ctx, ast.Load)}
            for node in walk(tree, ast.ImportFrom):
                self.assertEqual([], [name.name for name in node.names if name.name not in read], file)

    def test_one_binding_at_module_level(self):
        for file, tree in TREES.items():
            self.assertEqual(len(set(top_names(tree))), len(top_names(tree)), file)

    def test_module_level_values_are_plain(self):
        for tree in TREES.values():
            for node in tree.body:
                kinds = (ast.ImportFrom, ast.FunctionDef, ast.ClassDef, ast.Assign, ast.Expr)
                self.assertIsInstance(node, kinds)
                if isinstance(node, ast.Assign):
                    self.assertEqual(1, len(node.targets))
                    self.assert_plain(node, tree)

    def assert_plain(self, node, tree):
        """A value is written out; it may be a dict from texts to functions that are defined above it."""
        if isinstance(node.value, ast.Dict) and isinstance(node.value.values[0], ast.Name):
            above = [item.name for item in tree.body[:tree.body.index(node)] if isinstance(item, ast.FunctionDef)]
            for key, worth in zip(node.value.keys, node.value.values):
                self.assertIsInstance(key.value, str)
                self.assertIn(worth.id, above)
        else:
            value = ast.literal_eval(node.value)
            self.assertIsInstance(value, (int, str, tuple, dict))
            if isinstance(value, dict):
                self.assertEqual({str, tuple}, {part.__class__ for pair in value.items() for part in pair})

    def test_names_are_plain(self):
        for file, tree in TREES.items():
            names = set(top_names(tree)) | stored(tree) | {node.attr for node in walk(tree, ast.Attribute)}
            names |= {node.name for node in functions(tree)}
            for name in names:
                self.assertNotIn(name, UNUSED, file)
                self.assertNotIn(name.rstrip("0123456789_"), BARRED_NAMES, file)
                self.assertFalse(name.startswith(BARRED_STARTS), name)
                if name not in SPECIAL:
                    self.assertFalse(name.startswith("__"), name)
                if name not in ("get", "index", "_") and name not in SPECIAL:
                    self.assertFalse(name in dir(builtins), (file, name))

    def test_local_names_are_no_imports_and_no_classes(self):
        for file, tree in TREES.items():
            barred = {name.name for node in walk(tree, ast.ImportFrom) for name in node.names}
            barred |= {node.name for node in walk(tree, ast.ClassDef)}
            for node in functions(tree):
                self.assertEqual(set(), stored(node) & barred, (file, node.name))

    def test_names_that_are_read_are_known(self):
        for file, tree in TREES.items():
            for node in functions(tree):
                read = {name.id for name in walk(node, ast.Name) if isinstance(name.ctx, ast.Load)}
                unknown = read - stored(node) - set(top_names(tree)) - set(BUILTINS) - {"property"}
                self.assertEqual(set(), unknown, (file, node.name))
                self.assertFalse("_" in read)

    def test_attributes_and_methods(self):
        assigned, methods = set(), set()
        for tree in TREES.values():
            for node in walk(tree, ast.ClassDef):
                own = {item.name for item in node.body if isinstance(item, ast.FunctionDef)}
                mine = {n.attr for n in walk(node, ast.Attribute) if isinstance(n.ctx, ast.Store)}
                self.assertEqual(set(), own & mine, node.name)
                self.assertEqual(len(own), len([n for n in node.body if isinstance(n, ast.FunctionDef)]))
                properties = {item.name for item in functions(node) if item.decorator_list}
                methods, assigned = methods | own - properties, assigned | mine | properties
        for file, tree in TREES.items():
            up = parents(tree)
            for node in walk(tree, ast.Attribute):
                if isinstance(up[node], ast.Call) and up[node].func is node:
                    self.assertIn(node.attr, methods | set(BUILTIN_METHODS), file)
                else:
                    self.assertIn(node.attr, assigned, file)


    def test_own_attributes_and_methods_have_names_of_their_own(self):
        barred = {name for kind in KINDS for name in dir(kind) if not name.startswith("__")} - {"index", "count"}
        for file, tree in TREES.items():
            methods = {node.name for top in walk(tree, ast.ClassDef) for node in functions(top)}
            stores = {node.attr for node in walk(tree, ast.Attribute) if isinstance(node.ctx, ast.Store)}
            self.assertEqual(set(), (methods | stores) & barred, file)

    def test_no_name_is_a_method_here_and_an_attribute_or_another_method_there(self):
        stores, several = set(), {}
        for tree in TREES.values():
            stores |= {node.attr for node in walk(tree, ast.Attribute) if isinstance(node.ctx, ast.Store)}
            for top in walk(tree, ast.ClassDef):
                for node in functions(top):
                    several.setdefault(node.name, set()).add(len(node.args.args))
        self.assertEqual(set(), stores & set(several))
        alike = [name for name, many in several.items() if name not in SPECIAL + ("shows",) and len(many) > 1]
        self.assertEqual([], alike)


class Code(TestCase):

    def test_kinds_of_code(self):
        for file, tree in TREES.items():
            for node in ast.walk(tree):
                self.assertIn(node.__class__.__name__, NODES, (file, getattr(node, "lineno", None)))

    def test_functions_have_plain_parameters(self):
        for tree in TREES.values():
            for node in functions(tree):
                told = node.args
                extra = told.posonlyargs + told.kwonlyargs + told.defaults + [told.vararg, told.kwarg, node.returns]
                self.assertEqual([], [item for item in extra if item is not None], node.name)
                self.assertEqual([], [a for a in told.args if a.annotation])
                decorators = [item.id for item in node.decorator_list]
                self.assertIn(decorators, ([], ["property"]), node.name)
                self.assertEqual([node], functions(node), "no nested function")

    def test_classes(self):
        for file, tree in TREES.items():
            for node in walk(tree, ast.ClassDef):
                self.assertEqual([], node.decorator_list + node.keywords)
                self.assertIn(node, tree.body)
                if file != "errors":
                    self.assertEqual([], node.bases)
                for item in node.body:
                    self.assertIsInstance(item, (ast.FunctionDef, ast.Expr))
                    if isinstance(item, ast.FunctionDef) and item.name.startswith("__"):
                        self.assertIn(item.name, SPECIAL)

    def test_special_methods_modify_nothing(self):
        for tree in TREES.values():
            for node in functions(tree):
                if node.name in ("__eq__", "__len__"):
                    self.assertEqual([], walk(node, (ast.Assign, ast.AugAssign, ast.For, ast.While)))
                    self.assertTrue(isinstance(node.body[-1], ast.Return))
                if node.name == "__len__":
                    self.assertEqual(["len"], [called(item.value) for item in walk(node, ast.Return)])
                if node.name == "__init__":
                    self.assertEqual([], walk(node, ast.Return))

    def test_properties_change_nothing(self):
        kinds = (ast.Assign, ast.AugAssign, ast.For, ast.While)
        for tree in TREES.values():
            for node in functions(tree):
                if node.decorator_list:
                    self.assertEqual(["self"], [argument.arg for argument in node.args.args])
                    self.assertEqual([], walk(node, kinds), node.name)
                    self.assertIsInstance(node.body[-1], ast.Return)

    def test_blocks_are_over_own_objects_and_end_with_assignments(self):
        for tree in TREES.values():
            for node in walk(tree, ast.With):
                self.assertEqual([ast.Call], [item.context_expr.__class__ for item in node.items])
            for node in functions(tree):
                if node.name == "__exit__":
                    self.assertEqual("self kind value trace".split(), [item.arg for item in node.args.args])
                    for row in node.body:
                        self.assertIsInstance(row, ast.Assign)
                        self.assertEqual(1, len(row.targets))
                        self.assertIsInstance(row.targets[0], ast.Attribute)
                        self.assertIsInstance(row.value, ast.Attribute)

    def test_texts_in_braces(self):
        for file, tree in TREES.items():
            for node in walk(tree, ast.JoinedStr):
                self.assertEqual(node.lineno, node.end_lineno)
                for part in walk(node, ast.FormattedValue):
                    self.assertEqual((-1, None), (part.conversion, part.format_spec))
                    self.assertEqual([], [n for n in walk(part, ast.Constant) if isinstance(n.value, str)], file)

    def test_values(self):
        for file, tree in TREES.items():
            texts = docstrings(tree)
            for node in walk(tree, ast.Constant):
                self.assertIsInstance(node.value, (int, str, bool, None.__class__), file)
                if isinstance(node.value, str):
                    self.assertNotIn("%", node.value)
                    self.assertFalse(node.value.startswith("__") or node.value.endswith(("._", ".__")))
                    if node not in texts:
                        self.assertEqual([], [word for word in node.value.split() if word in UNUSED])

    def test_is_stands_with_none_true_and_false(self):
        for file, tree in TREES.items():
            for node in walk(tree, ast.Compare):
                for sign, right in zip(node.ops, node.comparators):
                    if isinstance(sign, (ast.Is, ast.IsNot)):
                        self.assertIsInstance(right, ast.Constant, file)

    def test_powers_have_literal_exponents(self):
        for tree in TREES.values():
            for node in walk(tree, ast.BinOp):
                if isinstance(node.op, ast.Pow):
                    self.assertIsInstance(node.right, ast.Constant)
                    self.assertNotIsInstance(node.left, ast.Constant)

    def test_errors_are_created_on_the_spot(self):
        for tree in TREES.values():
            for node in walk(tree, ast.Raise):
                self.assertIn(called(node.exc), top_names(TREES["errors"]))
                self.assertIsNone(node.cause)
                self.assertEqual((1, []), (len(node.exc.args), node.exc.keywords))

    def test_builtins_are_called_or_given_as_key(self):
        for file, tree in TREES.items():
            up = parents(tree)
            for node in walk(tree, ast.Name):
                if node.id in BUILTINS and isinstance(node.ctx, ast.Load):
                    over = up[node]
                    kind = isinstance(over, ast.Call) and over.func is not node or isinstance(over, ast.Tuple)
                    in_call = isinstance(over, ast.Call) and over.func is node
                    base = isinstance(over, ast.ClassDef)
                    self.assertTrue(in_call or base or kind and "isinstance" in (called(over), called(up[over])), file)

    def test_keywords_of_calls(self):
        for tree in TREES.values():
            for node in walk(tree, ast.Call):
                self.assertEqual([], node.keywords)
                self.assertEqual([], [item for item in node.args if isinstance(item, ast.Starred)])

    def test_what_is_iterated_at_once(self):
        for file, tree in TREES.items():
            up = parents(tree)
            for node in walk(tree, ast.Call):
                view = called(node) in VIEWS
                view = view or isinstance(node.func, ast.Attribute) and node.func.attr in ("items", "values", "keys")
                over = up[node]
                if view:
                    looped = isinstance(over, (ast.For, ast.comprehension)) and over.iter is node
                    self.assertTrue(looped or called(over) in TAKERS, (file, node.lineno))

    def test_sets_stand_where_they_may(self):
        for file, tree in TREES.items():
            up = parents(tree)
            self.assertEqual([], walk(tree, ast.Set))
            for node in walk(tree, (ast.Call, ast.SetComp)):
                if isinstance(node, ast.SetComp) or called(node) == "set":
                    self.assertIn(called(up[node]), ("sorted", "len"), (file, node.lineno))

    def test_names_in_comprehensions(self):
        kinds = (ast.ListComp, ast.DictComp, ast.SetComp)
        for file, tree in TREES.items():
            for outer in walk(tree, kinds):
                names = set().union(*[stored(part.target) for part in outer.generators])
                for inner in walk(outer, kinds):
                    if inner is not outer:
                        more = set().union(*[stored(part.target) for part in inner.generators])
                        self.assertEqual(set(), names & more, (file, inner.lineno))

    def test_what_is_iterated_over_is_not_modified(self):
        for file, tree in TREES.items():
            for loop in walk(tree, ast.For):
                over = {name.id for name in walk(loop.iter, ast.Name)}
                for node in loop.body:
                    for call in walk(node, ast.Call):
                        if isinstance(call.func, ast.Attribute) and call.func.attr in ("append", "extend", "pop", "setdefault"):
                            changed = {name.id for name in walk(call.func.value, ast.Name)}
                            self.assertEqual(set(), changed & over, (file, call.lineno))
                    for item in walk(node, ast.Subscript):
                        if isinstance(item.ctx, ast.Store) and isinstance(item.value, ast.Name):
                            self.assertNotIn(item.value.id, over, (file, item.lineno))
