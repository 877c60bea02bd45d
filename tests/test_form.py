"""The package keeps to a part of the language: what a look at its files can tell of that."""

import ast
import builtins
import pathlib
import re
import unittest

FOLDER = pathlib.Path(__file__).resolve().parent.parent / "almsrow"
FILES = {path.stem: path.read_bytes() for path in sorted(FOLDER.glob("*.py"))}
TREES = {name: ast.parse(text) for name, text in FILES.items()}

NODES = (
    "Module ImportFrom alias FunctionDef ClassDef arguments arg Return Assign AugAssign For While If Raise Pass Expr "
    "Break Continue BoolOp And Or BinOp Add Sub Mult FloorDiv Mod UnaryOp Not USub IfExp Compare Eq NotEq Lt LtE Gt "
    "GtE Is IsNot In NotIn Call Constant Attribute Subscript Slice Name Load Store Tuple List ListComp GeneratorExp "
    "comprehension Dict DictComp SetComp keyword Delete Del Try ExceptHandler Starred"
).split()
CALLED = "len range min max sum isinstance list tuple dict sorted all any divmod zip str int ValueError".split()
METHODS = "append count index get setdefault split join pop startswith".split()
BARRED = (
    "register mro elements open input law version_info type vars id dir copyright license exit compile super typing "
    "enum namedtuple os sys gc format"
).split()


def nodes(*kinds):
    for name, tree in TREES.items():
        for node in ast.walk(tree):
            if isinstance(node, kinds):
                yield name, node


def bound_names(tree):
    for node in ast.walk(tree):
        if isinstance(node, ast.Name) and isinstance(node.ctx, ast.Store):
            yield node.id
        if isinstance(node, ast.arg):
            yield node.arg


def defined_names(tree):
    """The names of a file's functions and classes, and those assigned at its module level."""
    for part in tree.body:
        if isinstance(part, (ast.FunctionDef, ast.ClassDef)):
            yield part.name
        if isinstance(part, ast.Assign):
            yield part.targets[0].id


def own_methods():
    return {part.name for _, node in nodes(ast.ClassDef) for part in node.body if isinstance(part, ast.FunctionDef)}


class TestForm(unittest.TestCase):
    def test_the_folder_holds_just_files(self):
        for path in FOLDER.iterdir():
            if path.name != "__pycache__":
                self.assertRegex(path.name, r"^[a-z_]+\.py$")

    def test_lines(self):
        for name, text in FILES.items():
            lines = text.decode("ascii").split("\n")
            self.assertLess(len(lines), 400, name)
            self.assertEqual(lines[-1], "", name)
            for line in lines:
                self.assertRegex(line, r"^[ -~]{0,120}$", name)
                self.assertEqual(line, line.rstrip(), name)

    def test_only_what_is_known_is_used(self):
        for name, node in nodes(ast.AST):
            self.assertIn(type(node).__name__, NODES, name)

    def test_functions(self):
        for name, node in nodes(ast.FunctionDef):
            self.assertLessEqual(node.end_lineno - node.lineno + 1, 40, (name, node.name))
            self.assertFalse(node.decorator_list or node.args.defaults or node.args.kwonlyargs or node.returns)
            self.assertFalse(node.args.vararg or node.args.kwarg or [arg for arg in node.args.args if arg.annotation])

    def test_module_level(self):
        for name, tree in TREES.items():
            self.assertIsNotNone(ast.get_docstring(tree), name)
            for node in tree.body[1:]:
                self.assertIsInstance(node, (ast.ImportFrom, ast.FunctionDef, ast.ClassDef, ast.Assign), name)
                if isinstance(node, ast.Assign):
                    self.assertEqual(len(node.targets), 1, name)
                    self.plain(node.value, [part.name for part in tree.body if isinstance(part, ast.FunctionDef)
                                            and part.lineno < node.lineno])

    def plain(self, value, functions):
        """Literals, and tables of literals or of functions defined above."""
        if isinstance(value, ast.Dict):
            self.assertNotIn(None, value.keys)
            for key, part in zip(value.keys, value.values):
                ast.literal_eval(key)
                if isinstance(part, ast.Name):
                    self.assertIn(part.id, functions)
                else:
                    self.assertNotIsInstance(ast.literal_eval(part), (list, dict))
        else:
            self.assertIsInstance(ast.literal_eval(value), (int, str, tuple))

    def test_imports_name_the_defining_file(self):
        for name, node in nodes(ast.ImportFrom):
            package, _, file = node.module.partition(".")
            self.assertEqual((package, node.level), ("almsrow", 0), name)
            for alias in node.names:
                self.assertIn(alias.name, defined_names(TREES[file]), name)
                self.assertIsNone(alias.asname)

    def test_all_that_is_imported_is_used(self):
        for name, node in nodes(ast.ImportFrom):
            used = {part.id for part in ast.walk(TREES[name]) if isinstance(part, ast.Name)}
            for alias in node.names:
                self.assertIn(alias.name, used, name)

    def test_no_two_files_import_from_each_other(self):
        ahead = {name: {node.module.split(".")[1] for node in ast.walk(tree) if isinstance(node, ast.ImportFrom)}
                 for name, tree in TREES.items()}
        while ahead:
            free = [name for name in ahead if not ahead[name] & set(ahead)]
            self.assertTrue(free, ahead)
            ahead = {name: some for name, some in ahead.items() if name not in free}

    def test_names(self):
        for name, tree in TREES.items():
            defined = {node.name for node in ast.walk(tree) if isinstance(node, (ast.FunctionDef, ast.ClassDef))}
            imported = {alias.name for node in ast.walk(tree) if isinstance(node, ast.ImportFrom) for alias in node.names}
            for told in (set(bound_names(tree)) | defined) - {"__init__"}:
                self.assertFalse(hasattr(builtins, told), (name, told))
                self.assertNotIn(told, BARRED, name)
                self.assertNotIn(told, imported, name)
                self.assertRegex(told, r"^(_|_?[A-Za-z][A-Za-z0-9_]*)$", name)
                self.assertNotRegex(told, r"^_(wall|pe_|dcw_|enum_|cm_|twin_re_|lay_|law_|stub_|sre|cold|outside|record)")
            self.assertFalse(set(bound_names(tree)) & {part.name for part in tree.body if hasattr(part, "name")}, name)

    def test_what_is_called(self):
        for name, node in nodes(ast.Call):
            for keyword in node.keywords:
                self.assertEqual((node.func.id, keyword.arg), ("sorted", "key"), name)
                self.assertIsInstance(keyword.value, ast.Name, name)
            if isinstance(node.func, ast.Attribute):
                self.assertIn(node.func.attr, own_methods().union(METHODS), name)
            elif hasattr(builtins, node.func.id):
                self.assertIn(node.func.id, CALLED, name)

    def test_each_call_passes_what_its_function_takes(self):
        for name, tree in TREES.items():
            from_where = {part.name: name for part in tree.body if isinstance(part, (ast.FunctionDef, ast.ClassDef))}
            from_where.update({alias.name: node.module.split(".")[1] for node in ast.walk(tree)
                               if isinstance(node, ast.ImportFrom) for alias in node.names})
            for node in ast.walk(tree):
                if isinstance(node, ast.Call) and isinstance(node.func, ast.Name) and node.func.id in from_where:
                    self.assertEqual(len(node.args), self.takes(from_where[node.func.id], node.func.id), (name, node.func.id))

    def takes(self, file, told):
        """How many arguments the function or class of that file takes."""
        part = [part for part in TREES[file].body if getattr(part, "name", None) == told][0]
        if isinstance(part, ast.FunctionDef):
            return len(part.args.args)
        inits = [some for some in part.body if isinstance(some, ast.FunctionDef) and some.name == "__init__"]
        return len(inits[0].args.args) - 1

    def test_tries_catch_own_refusals(self):
        errors = set(defined_names(TREES["errors"]))
        for name, node in nodes(ast.Try):
            self.assertFalse(node.finalbody or node.orelse, name)
            for handler in node.handlers:
                self.assertIn(handler.type.id, errors, name)
                self.assertIsNone(handler.name)

    def test_joins_and_stars(self):
        for name, node in nodes(ast.Call):
            if isinstance(node.func, ast.Attribute) and node.func.attr == "join":
                self.assertIsInstance(node.func.value, ast.Constant, name)
        calls = [part for _, node in nodes(ast.Call) for part in node.args]
        for name, node in nodes(ast.Starred):
            self.assertIn(node, calls, name)
            self.assertIsInstance(node.value, ast.Name, name)

    def test_generator_expressions_stand_in_all_and_any(self):
        inside = [id(node.args[0]) for _, node in nodes(ast.Call)
                  if isinstance(node.func, ast.Name) and node.func.id in ("all", "any")]
        for name, node in nodes(ast.GeneratorExp):
            self.assertIn(id(node), inside, name)

    def test_set_comprehensions_stand_in_sorted_and_len(self):
        inside = [id(node.args[0]) for _, node in nodes(ast.Call)
                  if isinstance(node.func, ast.Name) and node.func.id in ("sorted", "len") and not node.keywords]
        for name, node in nodes(ast.SetComp):
            self.assertIn(id(node), inside, name)

    def test_attributes(self):
        barred = ("items keys values pop update append clear extend insert remove reverse setdefault sort args encode "
                  "decode hex fromhex format mro").split()
        for name, node in nodes(ast.Attribute):
            if isinstance(node.ctx, ast.Store):
                self.assertNotIn(node.attr, barred, name)
                self.assertNotIn(node.attr, own_methods(), name)
                self.assertIsInstance(node.value, ast.Name, name)
            self.assertNotIn(node.attr, "register mro elements open input law version_info".split(), name)
            self.assertNotRegex(node.attr, "^__", name)

    def test_constants(self):
        for name, node in nodes(ast.Constant):
            self.assertIsInstance(node.value, (int, str, type(None)), name)
            if isinstance(node.value, str):
                self.assertNotIn("%", node.value, name)
        for name, node in nodes(ast.Compare):
            for sign, other in zip(node.ops, node.comparators):
                if isinstance(sign, (ast.Is, ast.IsNot)):
                    self.assertIsInstance(other, ast.Constant, name)

    def test_words_that_stand_nowhere(self):
        for name, tree in TREES.items():
            told = [node.value for node in ast.walk(tree) if isinstance(node, ast.Constant)]
            docs = [ast.get_docstring(node, clean=False) for node in ast.walk(tree)
                    if isinstance(node, (ast.Module, ast.FunctionDef, ast.ClassDef))]
            for text in told:
                if isinstance(text, str) and text not in docs:
                    self.assertIsNone(re.search(r"\b(type|enum|Enum|Flag|Generic|Protocol|ABC)\b", text), name)
            self.assertNotIn(b"_wall", FILES[name])
            self.assertNotIn(b"_WallAttr", FILES[name])

    def test_errors_are_made_where_they_are_raised(self):
        for name, node in nodes(ast.Raise):
            self.assertIsInstance(node.exc, ast.Call, name)
            self.assertIsNone(node.cause)
