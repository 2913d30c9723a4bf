"""The form of the package: what can be seen in its files, and where the interface stands."""

import ast
import builtins
import importlib
import inspect
import pathlib
import unittest

ROOT = pathlib.Path(__file__).resolve().parent.parent
FILES = sorted((ROOT / "suresieves").rglob("*.py"))
ALLOWED_BUILTINS = """len range enumerate zip min max sum abs sorted reversed int str bool bytes list tuple dict set
frozenset isinstance ord repr any all divmod pow getattr hasattr setattr iter next map Exception ValueError TypeError
KeyError IndexError LookupError ZeroDivisionError ArithmeticError OverflowError RuntimeError NotImplementedError
AttributeError StopIteration NotImplemented""".split()
METHODS = """append clear copy count endswith extend find get index insert isalnum isalpha isdigit islower isspace
isupper items join keys ljust lower lstrip partition pop remove replace reverse rfind rjust rpartition rsplit rstrip
setdefault split splitlines startswith strip update upper values zfill bit_length""".split()
BARRED_WORDS = """type typing typing_extensions enum Enum IntEnum StrEnum Flag IntFlag Generic Protocol ABC ABCMeta
namedtuple NamedTuple TypedDict TYPE_CHECKING abstractmethod""".split()
BARRED_NAMES = """register mro elements open input law version_info with_traceback add_note attrgetter breakpoint
builtins compile copyright credits delattr dir eval exec exit gc globals help id importlib license locals methodcaller
os quit super type vars sys""".split()
INTERFACE = {
    "packets": {
        "is_packet": "value", "is_table": "value", "are_tables": "value", "is_grant": "value",
        "grant_for": "packet tables writable",
    },
    "runs": {
        "is_row": "value", "is_sieve": "value", "is_run": "value", "begun": "packet tables clock writable",
        "fits": "grant run", "one_step": "sieve run", "run_on": "sieve run steps", "fault_of": "sieve run",
        "answer_of": "sieve run", "reckoned": "op one two", "does_hold": "condition one two",
    },
    "sources": {
        "is_source": "value", "variables_in": "source", "meant": "source packet tables clock", "rounds_of": "source",
        "read_source": "writing", "show_source": "source",
    },
    "compiling": {"does_serve": "source grant", "compiled": "source grant"},
    "listings": {
        "is_listing": "value", "can_be_laid": "listing", "sieve_of": "listing", "read_listing": "writing",
        "show_listing": "listing", "show_sieve": "sieve",
    },
    "known": {
        "is_known": "value", "is_known_state": "value", "is_so": "known word run", "tight": "known",
        "room_of": "known least", "join": "state other", "is_within": "state other", "are_so": "state run",
        "entry": "grant",
    },
    "ways": {
        "reckoned_known": "op one two least", "related_known": "relation one two", "ways_of": "row place state grant",
        "open_kind": "row place state grant many",
    },
    "inspector": {
        "flaws": "sieve", "steps_bound": "sieve", "told_table": "sieve grant", "takes_table": "sieve grant table",
        "verdict": "sieve grant", "sure_places": "sieve grant table",
    },
    "blocks": {"is_ender": "row", "block_at": "sieve place limit"},
    "forms": {
        "is_form": "value", "form_of": "sieve place limit", "worked": "run form most", "at_boundary": "run form number",
    },
    "rewritings": {
        "is_step": "value", "steps_of": "form sure", "rewritten": "form step sure", "better": "form kept sure",
        "led_through": "form steps sure", "sum_of": "form",
    },
    "hosts": {
        "is_host": "value", "is_translation": "value", "host_row": "row host", "run_host": "translation host run most",
    },
    "maps": {
        "entered": "run", "left": "run translation exit_number host", "passed": "translation run most",
    },
    "judge": {
        "made_mark": "marks op one two", "bound_of": "marks number", "worth_of": "marks number host words",
        "takes": "form translation",
    },
    "making": {"made": "form cells"},
    "flows": {
        "link_of": "sieve grant", "is_link": "value", "are_deeds": "value", "are_settings": "value",
        "flow_of": "chain tables coming", "fed": "flow coming", "dealt": "flow deed", "flowed": "flow deeds steps",
        "tables_of": "flow", "steps_left": "flow", "free_steps": "flow deeds steps",
    },
    "chains": {"joined": "first second"},
    "runners": {
        "started": "flow settings", "is_runner": "flow value", "shown": "runner", "tally": "runner", "kept": "runner",
        "links": "runner", "leap": "runner deeds steps", "led": "runner deeds steps", "deeded": "runner deed",
        "fed_runner": "runner coming", "tale": "runner deeds steps",
    },
    "snapshots": {"write_snapshot": "run", "read_snapshot": "writing"},
    "console": {"fresh_console": "", "said": "console line", "told_all": "console lines"},
    "checker": {"accepts": "claim paper"},
    "certificates": {
        "certify_meant": "source packet tables clock", "certify_compiled": "source grant",
        "certify_verdict": "sieve grant", "certify_form": "sieve place limit", "certify_better": "form kept sure",
        "certify_translation": "form cells", "certify_passed": "translation run most",
        "certify_flow": "chain tables coming settings deeds steps", "certify_joined": "first second",
    },
}


def trees():
    for path in FILES:
        yield path, ast.parse(path.read_text(encoding="utf-8"))


def functions_in(tree):
    return [node for node in ast.walk(tree) if isinstance(node, ast.FunctionDef)]


def locals_in(function):
    """Parameters and what is assigned in a function."""
    names = [argument.arg for argument in ast.walk(function.args) if isinstance(argument, ast.arg)]
    for node in ast.walk(function):
        if isinstance(node, ast.Name) and isinstance(node.ctx, ast.Store):
            names.append(node.id)
    return names


def docstrings_in(tree):
    kinds = (ast.Module, ast.FunctionDef, ast.ClassDef)
    nodes = [node for node in ast.walk(tree) if isinstance(node, kinds) and ast.get_docstring(node) is not None]
    return [node.body[0].value for node in nodes]


class TestInterface(unittest.TestCase):
    def test_defined_where_it_is_listed(self):
        for name, functions in INTERFACE.items():
            module = importlib.import_module("suresieves." + name)
            for function, parameters in functions.items():
                with self.subTest(module=name, function=function):
                    told = getattr(module, function)
                    self.assertEqual(told.__module__, module.__name__)
                    self.assertEqual(list(inspect.signature(told).parameters), parameters.split())
                    for parameter in inspect.signature(told).parameters.values():
                        self.assertIs(parameter.kind, inspect.Parameter.POSITIONAL_OR_KEYWORD)


class TestForm(unittest.TestCase):
    def test_files(self):
        for path in sorted((ROOT / "suresieves").rglob("*")):
            if "__pycache__" not in path.parts:
                self.assertEqual(path.suffix, ".py")
        for path in FILES:
            text = path.read_text(encoding="utf-8")
            lines = text.splitlines()
            with self.subTest(path=path.name):
                self.assertLess(len(lines), 400)
                self.assertTrue(text.endswith("\n") and "\t" not in text)
                self.assertLessEqual(max(map(len, lines)), 120)
                self.assertTrue(all(sign == "\n" or " " <= sign <= "~" for sign in text))

    def test_functions(self):
        for path, tree in trees():
            for function in functions_in(tree):
                with self.subTest(path=path.name, function=function.name):
                    self.assertLessEqual(function.end_lineno - function.lineno + 1, 40)
                    self.assertEqual(function.decorator_list, [])

    def test_imports(self):
        defined = {}
        for path, tree in trees():
            names = [node.name for node in tree.body if isinstance(node, (ast.FunctionDef, ast.ClassDef))]
            names += [node.targets[0].id for node in tree.body if isinstance(node, ast.Assign)]
            self.assertEqual(len(names), len(set(names)), path.name)
            defined["suresieves." + path.stem] = names
        for path, tree in trees():
            used = {node.id for node in ast.walk(tree) if isinstance(node, ast.Name)}
            for node in ast.walk(tree):
                self.assertNotIsInstance(node, ast.Import)
                if isinstance(node, ast.ImportFrom):
                    for alias in node.names:
                        with self.subTest(path=path.name, name=alias.name):
                            self.assertIsNone(alias.asname)
                            self.assertIn(alias.name, defined[node.module])
                            self.assertIn(alias.name, used)

    def test_no_two_files_import_from_each_other(self):
        imports = {
            "suresieves." + path.stem: [node.module for node in tree.body if isinstance(node, ast.ImportFrom)]
            for path, tree in trees()
        }
        reached = dict(imports)
        for _ in imports:
            reached = {
                name: sorted(set(there) | {far for near in there for far in reached[near]})
                for name, there in reached.items()
            }
        for name, there in reached.items():
            self.assertNotIn(name, there)

    def test_names(self):
        for path, tree in trees():
            imported = [alias.name for node in tree.body if isinstance(node, ast.ImportFrom) for alias in node.names]
            classes = [node.name for node in tree.body if isinstance(node, ast.ClassDef)]
            for function in functions_in(tree):
                names = locals_in(function) + [function.name]
                with self.subTest(path=path.name, function=function.name):
                    self.assertEqual([name for name in locals_in(function) if name in imported + classes], [])
                    self.assertEqual([name for name in names if name in dir(builtins)], [])
                    self.assertEqual([name for name in names if name in BARRED_NAMES], [])
            read = [node.id for node in ast.walk(tree) if isinstance(node, ast.Name) and node.id in dir(builtins)]
            self.assertEqual([name for name in read if name not in ALLOWED_BUILTINS], [], path.name)

    def test_attributes(self):
        own = set()
        for _, tree in trees():
            own |= {node.name for node in ast.walk(tree) if isinstance(node, ast.FunctionDef)}
            own |= {node.attr for node in ast.walk(tree) if isinstance(node, ast.Attribute)
                    and isinstance(node.ctx, ast.Store)}
        for path, tree in trees():
            for node in ast.walk(tree):
                if isinstance(node, ast.Attribute):
                    self.assertIn(node.attr, own | set(METHODS), f"{path.name}:{node.lineno}")

    def test_strings(self):
        for path, tree in trees():
            shown = docstrings_in(tree)
            for node in ast.walk(tree):
                if isinstance(node, ast.Constant) and isinstance(node.value, str):
                    self.assertNotIn("%", node.value)
                    if node not in shown:
                        self.assertEqual([word for word in BARRED_WORDS if word in node.value.split()], [])
                self.assertFalse(isinstance(node, ast.Constant) and isinstance(node.value, (float, complex)))

    def test_module_level(self):
        plain = (ast.Constant, ast.Tuple, ast.Dict, ast.Name, ast.Load)
        for path, tree in trees():
            for node in tree.body:
                self.assertIsInstance(
                    node, (ast.Expr, ast.ImportFrom, ast.FunctionDef, ast.ClassDef, ast.Assign), path.name
                )
                if isinstance(node, ast.Assign):
                    self.assertTrue(all(isinstance(part, plain) for part in ast.walk(node.value)), path.name)
                    inner = [part for part in ast.walk(node.value) if isinstance(part, ast.Dict)]
                    self.assertLessEqual(len(inner), 1)

    def test_stars_in_calls(self):
        for path, tree in trees():
            for node in ast.walk(tree):
                if isinstance(node, ast.Call):
                    for part in node.args:
                        if isinstance(part, ast.Starred):
                            self.assertIsInstance(part.value, (ast.Name, ast.Attribute), f"{path.name}:{node.lineno}")

    def test_caught_errors_have_names_of_their_own(self):
        for path, tree in trees():
            for function in functions_in(tree):
                names = [node.name for node in ast.walk(function) if isinstance(node, ast.ExceptHandler) and node.name]
                self.assertEqual(len(names), len(set(names)), f"{path.name}:{function.name}")
                self.assertEqual([name for name in names if name in locals_in(function)], [])

    def test_methods_and_attributes_are_unlike(self):
        methods, attributes = set(), set()
        for _, tree in trees():
            for node in ast.walk(tree):
                if isinstance(node, ast.ClassDef):
                    methods |= {part.name for part in node.body if isinstance(part, ast.FunctionDef)}
                elif isinstance(node, ast.Attribute) and isinstance(node.ctx, ast.Store):
                    attributes.add(node.attr)
        self.assertEqual(methods & attributes, set())

    def test_tables_hold_functions_of_their_own_file(self):
        for path, tree in trees():
            own = [node.name for node in tree.body if isinstance(node, ast.FunctionDef)]
            for node in tree.body:
                if isinstance(node, ast.Assign):
                    named = {part.id for part in ast.walk(node.value) if isinstance(part, ast.Name)}
                    self.assertLessEqual(named, set(own), path.name)

    def test_what_is_not_used(self):
        barred = (ast.Global, ast.AsyncFunctionDef, ast.AsyncFor, ast.AsyncWith, ast.Await, ast.Div)
        for path, tree in trees():
            for node in ast.walk(tree):
                self.assertNotIsInstance(node, barred, path.name)
