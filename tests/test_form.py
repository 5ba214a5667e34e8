"""The interface as it is written, and the rules of the language that can be read off the files."""

import ast
import builtins
import functools
import importlib
import inspect
import io
import os
import tokenize
import unittest

FOLDER = os.path.join(os.path.dirname(os.path.dirname(os.path.abspath(__file__))), "maieutic")

# Functions and methods of the interface, with their parameters.
INTERFACE = {
    "machines": {
        "check_machine": ["machine"], "fits": ["machine", "word"], "state_after": ["machine", "word"],
        "output_after": ["machine", "word"], "outputs_along": ["machine", "word"],
        "comes_before": ["first", "second"],
    },
    "least": {"classes": ["machine"], "least": ["machine"]},
    "differ": {
        "are_alike": ["first", "second"], "first_difference": ["first", "second"],
        "parting_word": ["machine", "state", "other"],
    },
    "beside": {"beside": ["first", "second"], "own_parts": ["word", "letters"]},
    "notation": {"machine_text": ["machine"], "read_machine": ["text"], "word_text": ["word"], "read_word": ["text"]},
    "table": {
        "Table": ["letters"], "Table.state_words": [], "Table.columns": [], "Table.wanted": ["known"],
        "Table.extend": ["known"], "Table.add_column": ["word"], "Table.mistake": ["outs", "known"],
        "Table.machine": ["outs", "known"],
    },
    "halving": {"Halving": ["length"], "Halving.place": [], "Halving.tell": ["differs"], "Halving.found": []},
    "asker": {
        "Asker": ["letters", "outs", "most", "known"], "Asker.step": [], "Asker.answer": ["output"],
        "Asker.accept": [], "Asker.show": ["word"], "Asker.report": [], "Asker.journal": [], "Asker.image": [],
    },
    "parts": {
        "PartsAsker": ["letters", "outs", "most"], "PartsAsker.step": [], "PartsAsker.answer": ["output"],
        "PartsAsker.accept": [], "PartsAsker.show": ["word"], "PartsAsker.report": [], "PartsAsker.journal": [],
        "PartsAsker.image": [],
    },
    "images": {"load_asker": ["text"], "load_parts_asker": ["text"]},
    "apart": {"ways_to": ["machine"], "telling_words": ["machine"]},
    "suite": {"are_told": ["words", "first", "second"], "suite_words": ["machine", "extra"]},
    "blind": {"unused_moves": ["machine", "words"], "blind_machine": ["machine", "words"]},
    "home": {"homing_word": ["machine"], "state_at_end": ["machine", "word", "outputs"]},
    "secret": {
        "Secret": ["letters", "length"], "Secret.reply": ["word"], "Secret.left": [], "Secret.possible": [],
        "Secret.pair": [],
    },
    "honest": {
        "Honest": ["machine", "picks"], "Honest.reply": ["word"], "Honest.judge": ["proposal"],
        "play": ["asker", "box"],
    },
    "smallest": {
        "check_log": ["letters", "outs", "log"], "fits_log": ["machine", "log"],
        "smallest": ["letters", "outs", "log"], "is_only": ["letters", "outs", "log"],
    },
    "clash": {
        "beginnings": ["log"], "do_clash": ["log", "first", "second"], "clash_list": ["letters", "outs", "log"],
    },
    "logbook": {
        "Logbook": ["letters", "outs"], "Logbook.note": ["word", "output"], "Logbook.log": [], "Logbook.machine": [],
        "Logbook.is_settled": [],
    },
    "fractions": {
        "fraction": ["numerator", "denominator"], "is_fraction": ["pair"], "plus": ["first", "second"],
        "minus": ["first", "second"], "times": ["first", "second"], "over": ["first", "second"],
        "solve": ["rows", "right"],
    },
    "weigh": {
        "check_weighted": ["machine"], "weight_of": ["machine", "word"], "rank_of": ["machine"],
        "weigh_alike": ["first", "second"], "weight_difference": ["first", "second"],
    },
    "weigher": {
        "Weigher": ["letters", "most"], "Weigher.step": [], "Weigher.answer": ["weight"], "Weigher.accept": [],
        "Weigher.show": ["word"], "Weigher.report": [],
    },
    "trees": {
        "are_ranks": ["ranks"], "is_tree": ["ranks", "tree"], "check_tree_machine": ["machine"],
        "state_of_tree": ["machine", "tree"], "output_of_tree": ["machine", "tree"],
    },
    "first_trees": {
        "first_trees": ["machine"], "least_tree_machine": ["machine"], "tree_difference": ["first", "second"],
    },
    "tree_asker": {
        "TreeAsker": ["ranks", "outs", "most"], "TreeAsker.step": [], "TreeAsker.answer": ["output"],
        "TreeAsker.accept": [], "TreeAsker.show": ["tree"], "TreeAsker.report": [],
    },
    "doubt": {
        "DoubtAsker": ["letters", "outs", "most", "wrong"], "DoubtAsker.step": [], "DoubtAsker.answer": ["output"],
        "DoubtAsker.accept": [], "DoubtAsker.show": ["word"], "DoubtAsker.report": [],
    },
    "changed": {
        "ChangedAsker": ["machine", "most"], "ChangedAsker.step": [], "ChangedAsker.answer": ["output"],
        "ChangedAsker.accept": [], "ChangedAsker.show": ["word"], "ChangedAsker.report": [],
    },
    "tested": {
        "TestedAsker": ["letters", "outs", "most"], "TestedAsker.step": [], "TestedAsker.answer": ["output"],
        "TestedAsker.accept": [], "TestedAsker.show": ["word"], "TestedAsker.report": [],
    },
    "lines": {"read_command": ["line"]},
    "desk": {"run_script": ["script"]},
}

# The names that may be imported from Python's own library, which are only called.
LIBRARY = {"math": ("gcd", "lcm")}

BUILTINS = set("""len range enumerate zip min max sum abs sorted reversed int str bool list tuple dict set
    isinstance ord repr any all divmod map iter next super Exception ValueError TypeError KeyError IndexError LookupError
    ZeroDivisionError ArithmeticError OverflowError RuntimeError NotImplementedError""".split())

METHODS = set("""append clear copy count endswith extend find get index insert isalnum isalpha isdigit islower isspace
    isupper items join keys ljust lower lstrip partition pop remove replace reverse rfind rjust rpartition rsplit
    rstrip setdefault split splitlines startswith strip update upper values zfill bit_length add discard""".split())

BARRED = set("""type typing typing_extensions enum Enum IntEnum StrEnum Flag IntFlag Generic Protocol ABC ABCMeta
    namedtuple NamedTuple TypedDict TYPE_CHECKING abstractmethod dataclass overload contextmanager register mro
    elements open input law version_info with_traceback add_note _record _cold _outside _tuplegetter""".split())

# The name _ is a builtin only behind an interactive example.
PYTHON_NAMES = set(dir(builtins)) - {"_"}

STATEMENTS = (ast.Assign, ast.AugAssign, ast.If, ast.While, ast.For, ast.Return, ast.Break, ast.Continue, ast.Pass,
              ast.Raise, ast.Assert, ast.Delete, ast.Nonlocal, ast.Try, ast.Expr, ast.Import, ast.ImportFrom,
              ast.FunctionDef, ast.ClassDef)


@functools.lru_cache(maxsize=None)
def texts():
    found = {}
    for name in sorted(os.listdir(FOLDER)):
        if name != "__pycache__":
            with open(os.path.join(FOLDER, name), encoding="utf-8") as file:
                found[name] = file.read()
    return found


@functools.lru_cache(maxsize=None)
def trees():
    return {name: ast.parse(text) for name, text in texts().items()}


def nodes(tree, kinds):
    return [node for node in ast.walk(tree) if isinstance(node, kinds)]


def imports_of(tree):
    return [(node.module, alias) for node in nodes(tree, ast.ImportFrom) for alias in node.names]


class Interface(unittest.TestCase):
    def find(self, module, name):
        """The definition of a function, class or method, which stands in this very file and class."""
        body = ast.parse(texts()[module + ".py"]).body
        for part in name.split("."):
            fitting = [node for node in body
                       if isinstance(node, (ast.FunctionDef, ast.ClassDef)) and node.name == part]
            self.assertEqual(len(fitting), 1, f"{module}.{name}")
            body = fitting[0].body
        return fitting[0]

    def test_names_and_arguments(self):
        for module, entries in INTERFACE.items():
            for name, parameters in entries.items():
                with self.subTest(module=module, name=name):
                    node = self.find(module, name)
                    if isinstance(node, ast.ClassDef):
                        node = self.find(module, name + ".__init__")
                    given = [argument.arg for argument in node.args.args]
                    if "." in name or name[0].isupper():
                        given = given[1:]
                    self.assertEqual(given, parameters)

    def test_names_can_be_imported(self):
        for module, entries in INTERFACE.items():
            loaded = importlib.import_module("maieutic." + module)
            for name in entries:
                value = getattr(loaded, name.split(".")[0])
                self.assertTrue(inspect.isfunction(value) or inspect.isclass(value))
                self.assertEqual(value.__module__, "maieutic." + module)


class Files(unittest.TestCase):
    def test_names(self):
        for name in texts():
            self.assertRegex(name, r"\A(__init__|[a-z][a-z0-9_]*)\.py\Z")
        self.assertIn("__init__.py", texts())

    def test_signs_and_sizes(self):
        for name, text in texts().items():
            lines = text.split("\n")
            self.assertLessEqual(len(lines) - 1, 399, name)
            for line in lines:
                self.assertLessEqual(len(line), 120, name)
                self.assertRegex(line, r"\A[ -~]*\Z", name)

    def test_functions_are_short(self):
        for name, tree in trees().items():
            for node in nodes(tree, ast.FunctionDef):
                self.assertLessEqual(node.end_lineno - node.lineno + 1, 40, f"{name} {node.name}")

    def test_barred_words(self):
        for name, text in texts().items():
            for token in tokenize.generate_tokens(io.StringIO(text).readline):
                if token.type == tokenize.NAME:
                    self.assertNotIn(token.string, BARRED, name)

    def test_module_level(self):
        for name, tree in trees().items():
            bound = []
            for place, node in enumerate(tree.body):
                if place == 0 and isinstance(node, ast.Expr):
                    continue
                self.assertIsInstance(node, (ast.ImportFrom, ast.FunctionDef, ast.ClassDef, ast.Assign), name)
                if isinstance(node, ast.ImportFrom):
                    bound += [alias.name for alias in node.names]
                elif isinstance(node, ast.Assign):
                    self.assertEqual([type(target) for target in node.targets], [ast.Name])
                    bound.append(node.targets[0].id)
                else:
                    bound.append(node.name)
            self.assertEqual(len(bound), len(set(bound)), name)


class Imports(unittest.TestCase):
    def test_each_name_is_imported_from_its_own_file_and_used(self):
        for name, tree in trees().items():
            self.assertEqual(nodes(tree, ast.Import), [])
            used = {node.id for node in nodes(tree, ast.Name)}
            for module, alias in imports_of(tree):
                if module in LIBRARY:
                    self.check_library(name, tree, module, alias)
                    continue
                self.assertRegex(module, r"\Amaieutic\.[a-z_]+\Z", name)
                self.assertIsNone(alias.asname)
                self.assertIn(alias.name, used, name)
                body = trees()[module[9:] + ".py"].body
                own = [node.name for node in body if isinstance(node, (ast.FunctionDef, ast.ClassDef))]
                own += [node.targets[0].id for node in body if isinstance(node, ast.Assign)]
                self.assertIn(alias.name, own, name)

    def check_library(self, name, tree, module, alias):
        """The name is called by its bare name, in functions, by position, and means nothing else."""
        self.assertIn(alias.name, LIBRARY[module], name)
        self.assertIsNone(alias.asname)
        called = [node.func for node in nodes(tree, ast.Call) if isinstance(node.func, ast.Name)]
        named = [node for node in nodes(tree, ast.Name) if node.id == alias.name]
        self.assertGreater(len(named), 0, name)
        for node in named:
            self.assertIn(node, called, name)
        for node in nodes(tree, ast.Call):
            if isinstance(node.func, ast.Name) and node.func.id == alias.name:
                self.assertEqual(node.keywords, [])
                self.assertFalse([one for one in node.args if isinstance(one, ast.Starred)])

    def test_no_circles(self):
        needs = {name[:-3]: {module[9:] for module, _ in imports_of(tree) if module not in LIBRARY}
                 for name, tree in trees().items()}
        while needs:
            free = [name for name, needed in needs.items() if not needed & set(needs)]
            self.assertNotEqual(free, [], needs)
            for name in free:
                del needs[name]


class Code(unittest.TestCase):
    def test_statements(self):
        for name, tree in trees().items():
            for node in nodes(tree, ast.stmt):
                self.assertIsInstance(node, STATEMENTS, name)
            for node in nodes(tree, (ast.FunctionDef, ast.ClassDef)):
                self.assertEqual(node.decorator_list, [], name)

    def test_operators_and_numbers(self):
        for name, tree in trees().items():
            self.assertEqual(nodes(tree, (ast.Div, ast.Set, ast.SetComp, ast.Await, ast.MatMult)), [], name)
            for node in nodes(tree, ast.Constant):
                self.assertNotIsInstance(node.value, (float, complex))
            for node in nodes(tree, ast.Compare):
                for sign, right in zip(node.ops, node.comparators):
                    if isinstance(sign, (ast.Is, ast.IsNot)):
                        self.assertIsInstance(right, ast.Constant, name)

    def test_strings(self):
        for name, tree in trees().items():
            for node in nodes(tree, ast.Constant):
                if isinstance(node.value, str):
                    self.assertNotIn("%", node.value, name)

    def test_names(self):
        for name, tree in trees().items():
            imported = {alias.name for _, alias in imports_of(tree)}
            classes = {node.name for node in nodes(tree, ast.ClassDef)}
            for node in nodes(tree, ast.FunctionDef):
                local = {argument.arg for argument in node.args.args}
                local |= {one.id for one in nodes(node, ast.Name) if isinstance(one.ctx, ast.Store)}
                self.assertEqual(local & (imported | classes | PYTHON_NAMES), set(), name)
                self.assertFalse([one for one in local if one.startswith("__")], name)

    def test_builtins_and_methods(self):
        own = {node.name for tree in trees().values() for node in nodes(tree, (ast.FunctionDef, ast.ClassDef))}
        for name, tree in trees().items():
            for node in nodes(tree, ast.Name):
                if node.id in PYTHON_NAMES:
                    self.assertIn(node.id, BUILTINS, name)
            for node in nodes(tree, ast.Call):
                if isinstance(node.func, ast.Attribute):
                    self.assertIn(node.func.attr, METHODS | own, name)

    def test_errors_are_raised_by_name(self):
        for name, tree in trees().items():
            for node in nodes(tree, ast.Raise):
                self.assertIsInstance(node.exc, ast.Call, name)
                self.assertIsInstance(node.exc.func, ast.Name, name)

    def test_no_method_is_an_attribute(self):
        for name, tree in trees().items():
            for node in nodes(tree, ast.ClassDef):
                methods = [one.name for one in nodes(node, ast.FunctionDef)]
                stored = {one.attr for one in nodes(node, ast.Attribute) if isinstance(one.ctx, ast.Store)}
                self.assertEqual(len(methods), len(set(methods)), name)
                self.assertEqual(stored & set(methods), set(), name)

    def test_no_method_is_an_attribute_elsewhere(self):
        methods, stored = set(), set()
        for tree in trees().values():
            for node in nodes(tree, ast.ClassDef):
                methods |= {one.name for one in nodes(node, ast.FunctionDef)}
                stored |= {one.attr for one in nodes(node, ast.Attribute) if isinstance(one.ctx, ast.Store)}
        self.assertEqual(methods & stored, set())


if __name__ == "__main__":
    unittest.main()
