"""The rules of the language that a look at the code can settle: the package keeps to a small subset of Python."""

import ast
import builtins
import pathlib
import re
import unittest

PACKAGE = pathlib.Path(__file__).resolve().parent.parent / "watchedworks"
FILES = sorted(PACKAGE.rglob("*.py"))

BUILTINS = set(
    "len range enumerate zip min max sum abs sorted reversed int str bool list tuple dict set isinstance ord repr any"
    " all divmod iter next ValueError TypeError KeyError IndexError super".split()
)
METHODS = set(
    "append clear copy count endswith extend find get index insert isalnum isalpha isdigit islower isspace isupper"
    " items join keys ljust lower lstrip partition pop remove replace reverse rfind rjust rpartition rsplit rstrip"
    " setdefault split splitlines startswith strip update upper values zfill bit_length isascii add discard".split()
)
BARRED_WORDS = set(
    "typing typing_extensions enum Enum IntEnum StrEnum Flag IntFlag Generic Protocol ABC ABCMeta namedtuple"
    " NamedTuple TypedDict TYPE_CHECKING abstractmethod Meta _wall _WallAttr".split()
)
BARRED_NAMES = set("register mro elements open input law version_info with_traceback add_note".split())
BARRED_NODES = (ast.Global, ast.AsyncFunctionDef, ast.AsyncFor, ast.AsyncWith, ast.Await, ast.Div)
CALLED_PARAMETERS = ("stepping", "deed")
EATERS = ("any", "all", "min", "max", "sum", "sorted")


def trees():
    return [(path, ast.parse(path.read_text(encoding="utf-8"))) for path in FILES]


def nodes(kind):
    return [(path, node) for path, tree in trees() for node in ast.walk(tree) if isinstance(node, kind)]


class Language(unittest.TestCase):
    def test_files(self):
        self.assertTrue((PACKAGE / "__init__.py") in FILES)
        for path in PACKAGE.rglob("*"):
            if "__pycache__" not in path.parts:
                self.assertRegex(path.name, r"^[a-z_][a-z0-9_]*\.py$")

    def test_sizes_and_characters(self):
        for path in FILES:
            lines = path.read_text(encoding="utf-8").split("\n")
            self.assertLessEqual(len(lines), 399, path)
            for number, line in enumerate(lines, 1):
                self.assertLessEqual(len(line), 120, f"{path}:{number}")
                self.assertTrue(all(" " <= sign <= "~" for sign in line), f"{path}:{number}")
        for path, node in nodes(ast.FunctionDef):
            self.assertLessEqual(node.end_lineno - node.lineno + 1, 40, f"{path}:{node.lineno}")

    def test_barred_words(self):
        for path in FILES:
            for word in re.findall(r"\w+", path.read_text(encoding="utf-8")):
                self.assertNotIn(word, BARRED_WORDS, path)

    def test_barred_names(self):
        for path, node in nodes(ast.AST):
            for field in ("id", "attr", "arg", "name"):
                self.assertNotIn(getattr(node, field, None), BARRED_NAMES, path)

    def test_imports(self):
        self.assertEqual(nodes(ast.Import), [])
        for path, node in nodes(ast.ImportFrom):
            self.assertEqual(node.level, 0)
            self.assertRegex(node.module, r"^watchedworks\.\w+$")
            source = ast.parse((PACKAGE.parent / (node.module.replace(".", "/") + ".py")).read_text(encoding="utf-8"))
            defined = [one.name for one in source.body if isinstance(one, (ast.FunctionDef, ast.ClassDef))]
            defined += [one.targets[0].id for one in source.body if isinstance(one, ast.Assign)]
            for name in node.names:
                self.assertIn(name.name, defined, f"{path}:{node.lineno}")
                self.assertIsNone(name.asname)

    def test_what_is_imported_is_used(self):
        for path, tree in trees():
            used = {node.id for node in ast.walk(tree) if isinstance(node, ast.Name)}
            for node in tree.body:
                if isinstance(node, ast.ImportFrom):
                    self.assertEqual([name.name for name in node.names if name.name not in used], [], path)

    def test_no_two_files_import_from_each_other(self):
        imported = {
            path.stem: {node.module.split(".")[1] for node in tree.body if isinstance(node, ast.ImportFrom)}
            for path, tree in trees()
        }
        while imported:
            free = [name for name in imported if not imported[name] & set(imported)]
            self.assertNotEqual(free, [], sorted(imported))
            for name in free:
                del imported[name]

    def test_no_variable_has_the_name_of_a_class_or_an_import_of_its_file(self):
        for path, tree in trees():
            taken = {name.name for node in tree.body if isinstance(node, ast.ImportFrom) for name in node.names}
            taken |= {node.name for node in tree.body if isinstance(node, ast.ClassDef)}
            stored = {n.id for n in ast.walk(tree) if isinstance(n, ast.Name) and isinstance(n.ctx, ast.Store)}
            stored |= {node.arg for node in ast.walk(tree) if isinstance(node, ast.arg)}
            self.assertEqual(sorted(taken & stored), [], path)

    def test_names_of_properties_and_methods_and_attributes(self):
        """A property's name is no method's, and in one class no method's name is an attribute's."""
        properties, methods, loaded = set(), set(), set()
        for _, node in nodes(ast.ClassDef):
            own = {one.name for one in node.body if isinstance(one, ast.FunctionDef)}
            told = {one.name for one in node.body if isinstance(one, ast.FunctionDef) and one.decorator_list}
            kept = {n.attr for n in ast.walk(node) if isinstance(n, ast.Attribute) and isinstance(n.ctx, ast.Store)}
            self.assertEqual(own & kept, set(), node.name)
            properties |= told
            methods |= own - told
            loaded |= kept
        self.assertEqual(properties & methods, set())
        self.assertEqual(properties & loaded, set())

    def test_a_class_with_items_has_a_way_to_go_through_it(self):
        for path, node in nodes(ast.ClassDef):
            own = [one.name for one in node.body if isinstance(one, ast.FunctionDef)]
            self.assertEqual("__getitem__" in own, "__iter__" in own, path)

    def test_contexts_end_plainly(self):
        """A context's end takes one attribute of its own to a name, and then gives attributes of its own to that."""
        ends = [(path, node) for path, node in nodes(ast.FunctionDef) if node.name == "__exit__"]
        for path, node in ends:
            first, *rest = [ast.unparse(row) for row in node.body]
            self.assertRegex(first, r"^[a-z]+ = self\._[a-z]+$", path)
            for row in rest:
                self.assertRegex(row, "^" + first.split(" ")[0] + r"\._[a-z]+ = self\._[a-z]+$", path)
        for path, node in nodes(ast.With):
            for item in node.items:
                self.assertIsInstance(item.context_expr, ast.Call, path)

    def test_generators_yield_in_loops_and_are_no_values(self):
        made = [node for _, node in nodes(ast.FunctionDef) if any(isinstance(n, ast.Yield) for n in ast.walk(node))]
        names = {node.name for node in made}
        for node in made:
            self.assertFalse(any(isinstance(n, (ast.Try, ast.With)) for n in ast.walk(node)), node.name)
            yields = [n for n in ast.walk(node) if isinstance(n, ast.Yield)]
            self.assertEqual(len(yields), sum(isinstance(n, ast.Expr) and n.value in yields for n in ast.walk(node)))
        self.assertEqual(names, {"good_sets"})
        for path, node in nodes(ast.Name):
            self.assertNotIn(node.id, names, path)
        self.assertEqual(nodes(ast.Try), [])

    def test_statements_and_expressions(self):
        for kind in BARRED_NODES:
            self.assertEqual([f"{path}:{node.lineno}" for path, node in nodes(ast.AST) if isinstance(node, kind)], [])
        for path, node in nodes(ast.Constant):
            self.assertNotIsInstance(node.value, (float, complex))
            if isinstance(node.value, str):
                self.assertNotIn("%", node.value)
        for path, node in nodes((ast.FunctionDef, ast.ClassDef)):
            names = [one.id if isinstance(one, ast.Name) else ast.dump(one) for one in node.decorator_list]
            self.assertIn(names, [[], ["property"]], f"{path}:{node.lineno}")

    def test_no_generator_expression_beside_operators(self):
        for path, node in nodes(ast.Call):
            if isinstance(node.func, ast.Name) and node.func.id in EATERS:
                self.assertFalse(any(isinstance(one, ast.GeneratorExp) for one in node.args), f"{path}:{node.lineno}")

    def test_module_level(self):
        allowed = (ast.ImportFrom, ast.FunctionDef, ast.ClassDef, ast.Assign, ast.Expr)
        for path, tree in trees():
            for node in tree.body:
                self.assertIsInstance(node, allowed, f"{path}:{node.lineno}")
                values = [node.value] if isinstance(node, (ast.Assign, ast.Expr)) else []
                if values and isinstance(node.value, ast.Dict):
                    values = [*node.value.keys, *node.value.values]
                for value in values:
                    self.assertIsInstance(value, ast.Constant, f"{path}:{node.lineno}")

    def test_names_that_are_called(self):
        for path, tree in trees():
            own = {node.name for node in ast.walk(tree) if isinstance(node, (ast.FunctionDef, ast.ClassDef))}
            own |= {name.name for node in tree.body if isinstance(node, ast.ImportFrom) for name in node.names}
            for node in ast.walk(tree):
                if isinstance(node, ast.FunctionDef):
                    own |= {argument.arg for argument in node.args.args if argument.arg in CALLED_PARAMETERS}
            for node in ast.walk(tree):
                if isinstance(node, ast.Call) and isinstance(node.func, ast.Name):
                    self.assertIn(node.func.id, own | BUILTINS, f"{path}:{node.lineno}")

    def test_methods_that_are_called(self):
        own = {node.name for _, node in nodes(ast.FunctionDef)}
        for path, node in nodes(ast.Call):
            if isinstance(node.func, ast.Attribute):
                self.assertIn(node.func.attr, own | METHODS, f"{path}:{node.lineno}")

    def test_no_builtin_gets_another_meaning(self):
        for path, tree in trees():
            stored = [node for node in ast.walk(tree) if isinstance(node, ast.Name) and isinstance(node.ctx, ast.Store)]
            names = {node.id for node in stored}
            names |= {node.arg for node in ast.walk(tree) if isinstance(node, ast.arg)}
            names |= {node.name for node in tree.body if isinstance(node, (ast.FunctionDef, ast.ClassDef))}
            self.assertEqual(sorted(names & set(dir(builtins))), [], path)

    def test_sets_stand_only_where_they_may(self):
        for path, tree in trees():
            places = []
            for node in ast.walk(tree):
                if isinstance(node, ast.Call) and isinstance(node.func, ast.Name) and node.func.id in ("sorted", "len"):
                    places.extend(node.args)
                if isinstance(node, ast.Compare):
                    places.extend([node.left, *node.comparators])
                if isinstance(node, ast.Assign) and isinstance(node.targets[0], ast.Name):
                    places.append(node.value)
            for node in ast.walk(tree):
                is_call = isinstance(node, ast.Call) and isinstance(node.func, ast.Name) and node.func.id == "set"
                if isinstance(node, (ast.Set, ast.SetComp)) or is_call:
                    self.assertIn(node, places, f"{path}:{node.lineno}")


if __name__ == "__main__":
    unittest.main()
