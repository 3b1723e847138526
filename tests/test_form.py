"""The form of the package's files: what can be seen of the rules of the language without running them."""

import ast
import builtins
import pathlib
import unittest

PACKAGE = pathlib.Path(__file__).resolve().parent.parent / "backwardrow"

ROW_METHODS = ("__init__", "begin", "next", "says", "__eq__")

# For each file of the interface: its functions, and its classes with the methods that stand in them.
INTERFACE = {
    "errors": {name: () for name in (
        "RowError", "BadNumber", "BadWord", "BadRow", "BadTable", "BadEater", "BadSignals", "BadSaying", "BadPaper",
        "Misfit", "NoName", "Twice", "TooMany", "Nothing", "BadText", "BadLine")},
    "checks": {name: None for name in ("is_integer", "is_within", "is_letter", "is_word")},
    "papers": {"Paper": ("__init__", "__bool__", "__eq__"), "Denial": ("__init__", "__bool__"), "fixed": None},
    "words": {name: None for name in ("all_words", "next_word", "mirrored", "word_text", "word_read")},
    "rows": {"Row": ("begin", "next", "says")},
    "tables": {"Table": ("__init__", "begin", "next", "says", "__eq__", "__str__", "read")},
    "runs": {name: None for name in ("strip", "worth_at", "seat", "due_tick", "told", "said", "told_words")},
    "slants": {
        "OneWay": ROW_METHODS, "slant": None, "unslant": None, "triangle": None},
    "folds": {"TwoWays": ROW_METHODS, "fold": None, "unfold": None},
    "joined": {name: ROW_METHODS for name in ("Not", "Both", "Either", "Renamed")},
    "listed": {"Listed": ("__init__",), "listed": None},
    "check_listed": {"shows_listed": None},
    "unlike": {"Parted": ("__init__",), "Same": ("__init__",), "unlike": None, "shows_unlike": None},
    "eaters": {
        "Eater": ("__init__", "__eq__", "__str__", "read"), "eaten": None, "takes": None, "beginnings": None, "side_by_side": None},
    "fed": {"Fed": ROW_METHODS},
    "mirrors": {"Mirror": ROW_METHODS},
    "sayings": {name: None for name in ("is_saying", "letters_in", "means", "words_so")},
    "saying_texts": {"saying_text": None, "saying_read": None},
    "spoken": {"row_of": None, "eater_of": None},
    "sped": {"Sped": (*ROW_METHODS, "inner"), "inner_tick": None, "cut_tick": None},
    "signals": {"Signals": (*ROW_METHODS, "__str__", "read")},
    "flashes": {name: None for name in ("flashes", "squares", "doubles", "echoes", "line_at", "meeting")},
    "pictures": {"picture": None, "listing": None, "slanted": None},
    "desk": {"Desk": ("__init__", "row", "tell")},
    "scripts": {"played": None},
}

BUILTINS = {
    "len", "range", "enumerate", "zip", "min", "max", "sum", "abs", "sorted", "reversed", "int", "str", "bool", "list",
    "tuple", "dict", "set", "isinstance", "ord", "repr", "any", "all", "divmod", "ValueError", "KeyError",
    "NotImplementedError", "staticmethod", "super",
}
WORDS_LEFT_OUT = {
    "register", "mro", "elements", "open", "input", "law", "version_info", "with_traceback", "add_note", "global",
    "eval", "exec", "exit", "globals", "locals", "vars", "dir", "id", "help", "compile", "super", "format", "args",
}
STRINGS_LEFT_OUT = {
    "type", "typing", "enum", "Enum", "Generic", "Protocol", "ABC", "namedtuple", "NamedTuple", "abstractmethod",
    "dataclass", "overload", "contextmanager",
}
NODES_LEFT_OUT = (
    ast.Global, ast.AsyncFunctionDef, ast.Await, ast.Import, ast.Match, ast.With, ast.Lambda,
    ast.Yield, ast.YieldFrom, ast.NamedExpr, ast.Div, ast.MatMult, ast.Set, ast.SetComp, ast.GeneratorExp, ast.AnnAssign,
)


def sources():
    return {path.stem: path.read_text(encoding="utf-8") for path in sorted(PACKAGE.glob("*.py"))}


def trees():
    return {name: ast.parse(source) for name, source in sources().items()}


def names_bound(tree):
    """All names that a file binds: parameters, variables, functions, classes, imports."""
    found = []
    for node in ast.walk(tree):
        if isinstance(node, ast.Name) and not isinstance(node.ctx, ast.Load):
            found.append(node.id)
        elif isinstance(node, ast.arg):
            found.append(node.arg)
        elif isinstance(node, (ast.FunctionDef, ast.ClassDef)):
            found.append(node.name)
        elif isinstance(node, ast.alias):
            found.append(node.name)
        elif isinstance(node, ast.ExceptHandler) and node.name is not None:
            found.append(node.name)
    return found


class Files(unittest.TestCase):
    def test_only_plain_files(self):
        for path in PACKAGE.iterdir():
            if path.name != "__pycache__":
                self.assertTrue(path.is_file() and path.suffix == ".py" and path.name == path.name.lower(), path)

    def test_sizes_and_signs(self):
        for name, source in sources().items():
            lines = source.split("\n")
            self.assertLessEqual(len(lines), 399, name)
            for number, line in enumerate(lines):
                self.assertLessEqual(len(line), 120, (name, number + 1))
                self.assertTrue(all(" " <= sign <= "~" for sign in line), (name, number + 1))
            for node in ast.walk(ast.parse(source)):
                if isinstance(node, ast.FunctionDef):
                    self.assertLessEqual(node.end_lineno - node.lineno + 1, 40, (name, node.name))

    def test_module_level(self):
        for name, tree in trees().items():
            bound = []
            for at, node in enumerate(tree.body):
                doc = at == 0 and isinstance(node, ast.Expr) and isinstance(node.value, ast.Constant)
                plain = isinstance(node, (ast.ImportFrom, ast.FunctionDef, ast.ClassDef, ast.Assign))
                self.assertTrue(doc or plain, (name, node.lineno))
                if isinstance(node, ast.ImportFrom):
                    bound += [alias.name for alias in node.names]
                elif isinstance(node, ast.Assign):
                    bound += [target.id for target in node.targets]
                elif not doc:
                    bound.append(node.name)
            self.assertEqual(len(bound), len(set(bound)), name)

    def test_imports(self):
        defined = {}
        uses = {}
        for name, tree in trees().items():
            defined[name] = {node.name for node in tree.body if isinstance(node, (ast.FunctionDef, ast.ClassDef))}
            defined[name] |= {target.id for node in tree.body if isinstance(node, ast.Assign) for target in node.targets}
        for name, tree in trees().items():
            source = ast.unparse(tree)
            uses[name] = set()
            for node in ast.walk(tree):
                if isinstance(node, ast.ImportFrom):
                    package, _, module = node.module.partition(".")
                    self.assertEqual((package, node.level), ("backwardrow", 0), name)
                    uses[name].add(module)
                    for alias in node.names:
                        self.assertIn(alias.name, defined[module], name)
                        self.assertIsNone(alias.asname)
                        self.assertGreater(source.count(alias.name), 1, (name, alias.name))
        while uses:
            free = [name for name in uses if not uses[name] & set(uses)]
            self.assertTrue(free, uses)
            for name in free:
                del uses[name]


class Names(unittest.TestCase):
    def test_no_builtin_is_given_another_meaning(self):
        for name, tree in trees().items():
            methods = [
                method.name for node in tree.body if isinstance(node, ast.ClassDef) for method in node.body
                if isinstance(method, ast.FunctionDef)]
            for bound in names_bound(tree):
                if bound not in methods:
                    self.assertNotIn(bound, dir(builtins), name)
                self.assertTrue(bound in methods or not bound.startswith("__"), (name, bound))

    def test_no_variable_hides_a_class_or_an_import(self):
        for name, tree in trees().items():
            outer = names_bound(ast.Module(body=tree.body, type_ignores=[]))
            held = {alias.name for node in tree.body if isinstance(node, ast.ImportFrom) for alias in node.names}
            held |= {node.name for node in tree.body if isinstance(node, (ast.FunctionDef, ast.ClassDef))}
            for bound in held:
                self.assertEqual(outer.count(bound), 1, (name, bound))

    def test_only_the_builtins_that_are_let(self):
        for name, tree in trees().items():
            own = set(names_bound(tree))
            for node in ast.walk(tree):
                if isinstance(node, ast.Name) and node.id not in own:
                    self.assertIn(node.id, BUILTINS, (name, node.lineno))

    def test_left_out_words(self):
        for name, tree in trees().items():
            docs = [
                node.body[0].value for node in ast.walk(tree)
                if isinstance(node, (ast.Module, ast.ClassDef, ast.FunctionDef)) and node.body
                and isinstance(node.body[0], ast.Expr)]
            for node in ast.walk(tree):
                self.assertNotIsInstance(node, NODES_LEFT_OUT, (name, getattr(node, "lineno", 0)))
                if isinstance(node, ast.Attribute):
                    self.assertNotIn(node.attr, WORDS_LEFT_OUT, name)
                if isinstance(node, ast.Constant) and isinstance(node.value, str) and node not in docs:
                    self.assertFalse(set(node.value.split()) & STRINGS_LEFT_OUT, name)
                    self.assertNotIn("%", node.value, name)
            self.assertFalse(set(names_bound(tree)) & WORDS_LEFT_OUT, name)

    def test_exponents_are_literal(self):
        for name, tree in trees().items():
            for node in ast.walk(tree):
                if isinstance(node, ast.BinOp) and isinstance(node.op, ast.Pow):
                    self.assertIsInstance(node.right, ast.Constant, name)

    def test_only_own_errors_are_caught(self):
        for name, tree in trees().items():
            for node in ast.walk(tree):
                if isinstance(node, ast.Try):
                    self.assertEqual((len(node.handlers), node.orelse, node.finalbody), (1, [], []), name)
                    self.assertIn(node.handlers[0].type.id, INTERFACE["errors"], name)

    def test_super_only_makes_what_is_above(self):
        for name, tree in trees().items():
            source = ast.unparse(tree)
            self.assertEqual(source.count("super("), source.count("super().__init__("), name)

    def test_no_name_is_a_method_and_an_attribute(self):
        methods, attributes, classes = set(), set(), set()
        for tree in trees().values():
            for node in ast.walk(tree):
                if isinstance(node, ast.ClassDef):
                    classes.add(node.name)
                    methods |= {part.name for part in node.body if isinstance(part, ast.FunctionDef)}
                if isinstance(node, ast.Attribute) and isinstance(node.ctx, ast.Store):
                    attributes.add(node.attr)
        # The document names a method of desks as it names an attribute of rows; then no method is read off a class.
        self.assertEqual(methods & attributes, {"row"})
        for name, tree in trees().items():
            for node in ast.walk(tree):
                if isinstance(node, ast.Attribute) and isinstance(node.value, ast.Name):
                    self.assertNotIn(node.value.id, classes, (name, node.lineno))
        for value in ("", 0, [], {}, set(), b""):
            self.assertFalse(attributes & set(dir(value)))


class Interface(unittest.TestCase):
    def test_each_name_is_defined_in_its_file(self):
        found = trees()
        for name, wanted in INTERFACE.items():
            defined = {node.name: node for node in found[name].body if isinstance(node, (ast.FunctionDef, ast.ClassDef))}
            for word, methods in wanted.items():
                self.assertIn(word, defined, name)
                if methods is None:
                    self.assertIsInstance(defined[word], ast.FunctionDef)
                    continue
                self.assertIsInstance(defined[word], ast.ClassDef)
                own = [part.name for part in defined[word].body if isinstance(part, ast.FunctionDef)]
                for method in methods:
                    self.assertIn(method, own, word)


if __name__ == "__main__":
    unittest.main()
