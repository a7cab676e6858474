"""Rules of the Python subset that can be read off the code of the package; in places narrower than they must be."""

import ast
import builtins
import pathlib
import unittest

FOLDER = pathlib.Path(__file__).resolve().parent.parent / "valvelevels"
LIBRARY = {"heapq": {"heappush", "heappop", "heapify", "heapreplace", "heappushpop"},
           "math": {"gcd", "lcm", "isqrt", "comb", "perm", "factorial"},
           "itertools": {"product", "combinations", "permutations"}}
# Python keeps what it showed last as a builtin, too.
GIVEN = set(vars(builtins)) - {"_"}
BUILTINS = set("""len range enumerate zip min max sum abs sorted reversed int str bool list tuple dict set isinstance
    ord repr any all divmod property ValueError KeyError IndexError LookupError TypeError ZeroDivisionError""".split())
METHODS = set("""append clear copy count endswith extend find get index insert isdigit items join keys lower lstrip
    partition pop remove replace reverse rfind rstrip setdefault split startswith strip update upper values zfill
    bit_length""".split())
BARRED = set("""mro elements open input law version_info with_traceback add_note register attrgetter breakpoint
    compile delattr dir eval exec exit gc globals help importlib locals os super vars sys""".split())
SPECIAL = {"__init__", "__len__", "__eq__", "__getitem__", "__iter__", "__call__"}
NODES = (ast.AsyncFunctionDef, ast.AsyncFor, ast.AsyncWith, ast.Await, ast.Global, ast.Div, ast.MatMult, ast.Set,
         ast.SetComp, ast.GeneratorExp, ast.Yield, ast.YieldFrom)


def modules():
    return {path.stem: path.read_text() for path in sorted(FOLDER.glob("*.py"))}


def trees():
    return {name: ast.parse(text) for name, text in modules().items()}


def constants(tree):
    """The statements at module level that give a name a value."""
    return [node for node in tree.body if isinstance(node, ast.Assign)]


def top_names(tree):
    defined = [node.name for node in tree.body if isinstance(node, (ast.FunctionDef, ast.ClassDef))]
    return defined + [node.targets[0].id for node in constants(tree)]


def imports(tree):
    """Pairs of a module and a name that is imported from it."""
    found = [node for node in ast.walk(tree) if isinstance(node, ast.ImportFrom)]
    return [(node.module, name.name) for node in found for name in node.names]


def functions(tree):
    return [node for node in ast.walk(tree) if isinstance(node, ast.FunctionDef)]


def bound(function):
    """The parameters and local variables of a function."""
    names = [node.arg for node in ast.walk(function) if isinstance(node, ast.arg)]
    found = [node for node in ast.walk(function) if isinstance(node, ast.Name)]
    return names + [node.id for node in found if isinstance(node.ctx, ast.Store)]


class Language(unittest.TestCase):
    def test_files_and_characters(self):
        for path in FOLDER.iterdir():
            self.assertTrue(path.suffix == ".py" or path.name == "__pycache__", path)
            self.assertEqual(path.name, path.name.lower())
        for name, text in modules().items():
            self.assertTrue(all(" " <= sign <= "~" or sign == "\n" for sign in text), name)
            self.assertNotIn(name, GIVEN)

    def test_sizes(self):
        for name, text in modules().items():
            lines = text.splitlines()
            self.assertLess(len(lines), 400, name)
            self.assertLessEqual(max(len(line) for line in lines), 120, name)
        for name, tree in trees().items():
            for function in functions(tree):
                self.assertLessEqual(function.end_lineno - function.lineno + 1, 40, (name, function.name))

    def test_imports_name_the_file_that_defines(self):
        found = trees()
        for name, tree in found.items():
            self.assertFalse([node for node in ast.walk(tree) if isinstance(node, ast.Import)], name)
            for module, imported in imports(tree):
                if module in LIBRARY:
                    self.assertIn(imported, LIBRARY[module])
                else:
                    self.assertTrue(module.startswith("valvelevels."), (name, module))
                    self.assertIn(imported, top_names(found[module.split(".")[1]]), (name, module))
            for node in ast.walk(tree):
                if isinstance(node, ast.ImportFrom):
                    self.assertEqual((node.level, [alias.asname for alias in node.names if alias.asname]), (0, []))

    def test_no_files_import_each_other(self):
        needs = {}
        for name, tree in trees().items():
            needs[name] = {module.split(".")[1] for module, _ in imports(tree) if module not in LIBRARY}
        while needs:
            free = [name for name in needs if not needs[name]]
            self.assertTrue(free, needs)
            needs = {name: needs[name] - set(free) for name in needs if name not in free}

    def check_only_read(self, tree, table):
        """That a dict at module level is only indexed, or asked whether it has a key."""
        uses = {node for node in ast.walk(tree) if isinstance(node, ast.Name) and node.id == table}
        read = {node.value for node in ast.walk(tree) if isinstance(node, ast.Subscript)}
        read |= {other for node in ast.walk(tree) if isinstance(node, ast.Compare) for other in node.comparators}
        self.assertEqual([type(node.ctx) for node in uses - read], [ast.Store], table)

    def test_module_level(self):
        for name, tree in trees().items():
            self.assertTrue(ast.get_docstring(tree), name)
            for node in tree.body[1:]:
                self.assertIsInstance(node, (ast.ImportFrom, ast.FunctionDef, ast.ClassDef, ast.Assign), name)
            for node in constants(tree):
                self.assertEqual([isinstance(target, ast.Name) for target in node.targets], [True], name)
                given = ast.literal_eval(node.value)
                self.assertIsInstance(given, (tuple, dict, int, str), name)
                self.assertFalse([part for part in ast.walk(node.value) if isinstance(part, (ast.List, ast.Set))], name)
                if isinstance(given, dict):
                    self.check_only_read(tree, node.targets[0].id)
            names = top_names(tree) + [imported for _, imported in imports(tree)]
            self.assertEqual(len(set(names)), len(names), name)

    def test_statements_and_values(self):
        for name, tree in trees().items():
            for node in ast.walk(tree):
                where = (name, getattr(node, "lineno", 0))
                # Nothing but numbers is added in place, so that all of this may be called by == and by properties.
                if isinstance(node, ast.AugAssign):
                    self.assertIsInstance(node.value, ast.Constant, where)
                    self.assertIsInstance(node.target, ast.Name, where)
                    continue
                self.assertNotIsInstance(node, NODES, where)
                if isinstance(node, ast.Constant):
                    self.assertNotIsInstance(node.value, (float, complex), where)
                    self.assertNotIn("%", str(node.value), where)
                if isinstance(node, ast.BinOp) and isinstance(node.op, ast.Pow):
                    self.assertIsInstance(node.right, ast.Constant, where)
                if isinstance(node, (ast.FunctionDef, ast.ClassDef)):
                    self.assertTrue(ast.get_docstring(node) or node.name in ("__init__", "__iter__"), where)
                if isinstance(node, ast.Starred) and isinstance(node.ctx, ast.Load):
                    self.assertIsInstance(node.value, (ast.Name, ast.Attribute), where)

    def test_errors_that_are_caught(self):
        own = set(top_names(trees()["errors"]))
        for name, tree in trees().items():
            for node in ast.walk(tree):
                if isinstance(node, ast.Try):
                    self.assertEqual([node.orelse, node.finalbody], [[], []], (name, node.lineno))
                    for handler in node.handlers:
                        self.assertIn(handler.type.id, own, (name, handler.lineno))
                        self.assertIs(handler.name, None, (name, handler.lineno))
                if isinstance(node, ast.Raise) and node.exc is not None:
                    self.assertIn(node.exc.func.id, own | {"TypeError"}, (name, node.lineno))

    def test_names(self):
        for name, tree in trees().items():
            imported = {imported for _, imported in imports(tree)}
            classes = {node.name for node in tree.body if isinstance(node, ast.ClassDef)}
            for function in functions(tree):
                names = set(bound(function))
                self.assertFalse(names & (imported | classes | GIVEN | BARRED), (name, function.name))
                for used in names | {function.name} - SPECIAL:
                    self.assertFalse(used.startswith(("__", "_wall", "_pe_", "_cm_", "_law_")), (name, used))
            known = set(top_names(tree)) | imported
            self.assertFalse(known & (GIVEN | BARRED), name)
            for node in ast.walk(tree):
                if isinstance(node, ast.Name) and node.id in GIVEN:
                    self.assertIn(node.id, BUILTINS, (name, node.lineno))

    def test_methods(self):
        own = {function.name for tree in trees().values() for function in functions(tree)}
        for name, tree in trees().items():
            for node in ast.walk(tree):
                if isinstance(node, ast.Call) and isinstance(node.func, ast.Attribute):
                    self.assertIn(node.func.attr, METHODS | own, (name, node.lineno))


if __name__ == "__main__":
    unittest.main()
