"""The rules of the language in which the package is written, as far as a test can see them."""

import ast
import builtins
import importlib
import inspect
import os
import re
import unittest

import flowreprise

FOLDER = os.path.dirname(flowreprise.__file__)
FILES = sorted(name for name in os.listdir(FOLDER) if name != "__pycache__")
USED_BUILTINS = set(
    "len range enumerate zip min max sum abs sorted reversed int str bool list tuple dict set isinstance ord any all "
    "divmod repr ValueError".split())
METHODS = set(
    "append clear copy count endswith extend find get index insert isalnum isalpha isdigit islower isspace isupper "
    "items join keys ljust lower lstrip partition pop remove replace reverse rfind rjust rpartition rsplit rstrip "
    "setdefault split splitlines startswith strip update upper values zfill bit_length add discard".split())
UNUSED_NAMES = set(
    "register mro elements open input law version_info with_traceback add_note attrgetter breakpoint builtins compile "
    "copyright credits delattr dir eval exec exit gc getattr globals hasattr help id importlib license locals "
    "methodcaller os quit setattr super type vars sys args format format_map".split())
# Functions may have these names, but no attributes.
UNUSED_ATTRIBUTES = UNUSED_NAMES | set(
    "items keys values pop update append clear extend insert remove reverse setdefault sort encode decode hex fromhex "
    "as_integer_ratio bit_count conjugate from_bytes is_integer to_bytes".split())
UNUSED_WORDS = set(
    "typing typing_extensions enum Enum IntEnum StrEnum Flag IntFlag Generic Protocol ABC ABCMeta namedtuple "
    "NamedTuple TypedDict TYPE_CHECKING abstractmethod dataclass overload contextmanager _wall _WallAttr".split())
UNUSED_NODES = (
    ast.Global, ast.Nonlocal, ast.AsyncFunctionDef, ast.AsyncFor, ast.AsyncWith, ast.Await, ast.With,
    ast.Yield, ast.YieldFrom, ast.NamedExpr, ast.Starred, ast.GeneratorExp, ast.Delete, ast.Div, ast.Import,
    ast.MatMult, ast.AnnAssign, ast.Match, ast.Assert, ast.SetComp)
INTERFACE = {
    "operations": {
        "operate": "sign a b", "inverted": "a", "negated": "a", "item_of": "a index", "size_of": "a", "text_of": "a",
        "list_of": "items", "is_value": "value", "is_of": "value sort"},
    "code": {
        "taken": "instruction", "may_fail": "instruction", "made": "instruction values", "targets": "code at",
        "leaders": "code"},
    "compiling": {"compile_program": "program", "signatures": "program"},
    "values": {
        "is_type": "kind", "is_value": "value", "kind_of": "value", "fits": "value kind", "known_type": "value",
        "joined": "one other", "show_type": "kind", "show_value": "value", "read_value": "text",
        "read_typed": "text kind"},
    "effects": {
        "effects": "program", "own_effects": "program at", "way": "program name effect",
        "way_right": "program name effect places", "reached": "program name", "has_ring": "program",
        "without_requests": "program", "allows_request": "known request", "allows_failure": "known code"},
    "verifying": {
        "verify": "codes signatures", "paper_right": "codes signatures paper", "first_state": "code signature",
        "next_states": "code at state signatures"},
    "bounds": {
        "ending": "program", "bounded": "program", "most_steps": "program", "step_paper": "program",
        "paper_holds": "program paper"},
    "trees": {"read_program": "text", "read_expression": "text"},
    "checking": {"check_program": "program", "type_of_expression": "program names tree"},
    "machine": {
        "Machine": "codes function values", "Machine.step": "self", "Machine.run": "self most",
        "Machine.outcome": "self", "Machine.answer": "self answer", "Machine.call_off": "self", "Machine.frames": "self",
        "Machine.saved": "self", "resumed": "codes saved"},
    "revising": {
        "matched": "old fresh signatures", "match_right": "old fresh signatures paper",
        "carried": "old fresh signatures paper saved"},
    "ending": {
        "circles": "pairs", "prove_end": "code signatures", "end_right": "code signatures paper",
        "turns_left": "code head slots"},
    "states": {"State": "", "State.apply": "self event", "state_of": "events"},
    "meaning": {"run": "program function values answers most"},
    "steps": {
        "random_for": "number index most", "outcome_of": "program flow", "next_event": "program state number"},
    "engines": {
        "Engine": "program journal", "Engine.begin": "self name values", "Engine.tick": "self length",
        "Engine.signal": "self number name value", "Engine.call_off": "self number",
        "Engine.bring": "self task answer", "Engine.turn": "self"},
    "exploring": {
        "leaves": "program function values choices depth most",
        "outcomes": "program function values choices depth most",
        "always": "program function values choices depth most wanted"},
    "lifting": {
        "runs": "code", "is_way": "code places", "lift": "code places", "node_fails": "node",
        "done_at_once": "piece slots stack"},
    "forms": {"encode": "data", "decode": "text"},
    "journals": {
        "check_of": "text", "record_of": "data", "read_records": "text", "Journal": "", "Journal.append": "self data",
        "Journal.sync": "self", "Journal.fall": "self kept", "Journal.recover": "self"},
    "folding": {"fold": "piece known", "folded_right": "piece folded paper"},
    "judging": {"event_right": "program state event", "first_wrong": "program events", "tasks_right": "text tasks"},
    "printing": {"show_program": "program", "show_expression": "tree"},
    "releases": {
        "first_difference": "program other flow", "may_move": "program other flow", "Fleet": "program",
        "Fleet.deploy": "self program", "Fleet.begin": "self name values", "Fleet.keep": "self event",
        "Fleet.move": "self number version", "Fleet.movable": "self", "Fleet.settle": "self"},
    "tiers": {
        "Tiered": "codes function values", "Tiered.promote": "self name known hot", "Tiered.demote": "self name",
        "Tiered.run": "self most", "Tiered.outcome": "self", "Tiered.answer": "self answer", "Tiered.call_off": "self",
        "Tiered.frames": "self", "Tiered.saved": "self"},
    "vaults": {
        "saved": "state", "restored": "data", "Vault": "", "Vault.append": "self event", "Vault.sync": "self",
        "Vault.begin_shortening": "self state", "Vault.end_shortening": "self", "Vault.fall": "self first second",
        "Vault.recover": "self"},
    "waiting": {
        "chain": "program state number", "own_moment": "program state number", "next_moment": "program state",
        "wanted": "program state number", "last_wanted": "program state number"},
    "worlds": {"World": "program", "World.perform": "self deed"},
}


def source_of(name):
    with open(os.path.join(FOLDER, name), encoding="utf-8") as file:
        return file.read()


def bound_names(function):
    """The parameters and variables of a function."""
    names = [arg.arg for node in ast.walk(function) if isinstance(node, (ast.FunctionDef, ast.Lambda))
             for arg in node.args.args]
    return names + [node.id for node in ast.walk(function) if isinstance(node, ast.Name) and not isinstance(
        node.ctx, ast.Load)]


def held_rows(source):
    """The rows at module level with a list, dict or tuple that contains a list or dict, however deep."""
    rows = []
    for row in ast.parse(source).body:
        if isinstance(row, (ast.FunctionDef, ast.ClassDef)):
            continue
        for outer in ast.walk(row):
            if isinstance(outer, (ast.List, ast.Dict, ast.Tuple)):
                rows += [row.lineno for inner in ast.walk(outer)
                         if inner is not outer and isinstance(inner, (ast.List, ast.Dict, ast.ListComp, ast.DictComp))]
    return sorted(set(rows))


def is_held(value):
    """Whether a list, dict or tuple contains a list or dict, however deep."""
    if not isinstance(value, (list, dict, tuple)):
        return False
    parts = list(value.values()) if isinstance(value, dict) else list(value)
    return any(isinstance(part, (list, dict)) or is_held(part) for part in parts)


def table_names(source):
    """The names of the lists and dicts at module level."""
    return {row.targets[0].id for row in ast.parse(source).body
            if isinstance(row, ast.Assign) and any(
                isinstance(node, (ast.List, ast.Dict)) for node in ast.walk(row.value))}


def kept_tables(source, tables):
    """The lines in which such names stand elsewhere than where lists and dicts are only read."""
    tree = ast.parse(source)
    read = []
    for node in ast.walk(tree):
        if isinstance(node, ast.Subscript) and isinstance(node.ctx, ast.Load):
            read.append(node.value)
        elif isinstance(node, ast.Compare):
            read += node.comparators
        elif isinstance(node, (ast.For, ast.comprehension)):
            read.append(node.iter)
        elif isinstance(node, ast.Attribute) and node.attr in ("get", "index", "count"):
            read.append(node.value)
        elif isinstance(node, ast.Call) and isinstance(node.func, ast.Name) and node.func.id in (
                "len", "list", "dict", "sorted"):
            read += node.args
    return sorted({node.lineno for node in ast.walk(tree) if isinstance(node, ast.Name) and node.id in tables
                   and isinstance(node.ctx, ast.Load) and not any(node is other for other in read)})


class TestFiles(unittest.TestCase):
    def test_names_and_characters(self):
        for name in FILES:
            with self.subTest(name=name):
                self.assertRegex(name, r"^[a-z_][a-z0-9_]*\.py$")
                self.assertNotIn(name[:-3], dir(builtins))
                source = source_of(name)
                self.assertRegex(source, r"\A[ -~\n]*\Z")
                lines = source.splitlines()
                self.assertLessEqual(len(lines), 399)
                self.assertLessEqual(max(len(line) for line in lines), 120)
                self.assertFalse(UNUSED_WORDS & set(re.findall(r"\w+", source)))

    def test_imports(self):
        leads = {}
        for name in FILES:
            rows = ast.parse(source_of(name)).body
            leads[name] = []
            heads = [row for row in rows[1:] if isinstance(row, ast.ImportFrom)]
            self.assertEqual(rows[1:len(heads) + 1], heads)
            for row in heads:
                self.assertEqual(row.level, 0)
                folder, other = row.module.split(".")
                self.assertEqual(folder, "flowreprise")
                leads[name].append(other + ".py")
                own = {row.name for row in ast.parse(source_of(other + ".py")).body if hasattr(row, "name")}
                own |= {row.targets[0].id for row in ast.parse(source_of(other + ".py")).body
                        if isinstance(row, ast.Assign)}
                for alias in row.names:
                    self.assertIsNone(alias.asname)
                    self.assertIn(alias.name, own)
        done = []
        while len(done) < len(FILES):
            ready = [name for name in FILES if name not in done and all(other in done for other in leads[name])]
            self.assertTrue(ready, "files import from each other")
            done += ready

    def test_module_level(self):
        for name in FILES:
            seen = []
            for row in ast.parse(source_of(name)).body:
                with self.subTest(name=name, line=row.lineno):
                    self.assertIsInstance(
                        row, (ast.Expr, ast.ImportFrom, ast.FunctionDef, ast.ClassDef, ast.Assign))
                    if isinstance(row, ast.Expr):
                        self.assertIsInstance(row.value, ast.Constant)
                    elif isinstance(row, ast.Assign):
                        self.assertIsInstance(row.targets[0], ast.Name)
                        for node in ast.walk(row.value):
                            self.assertNotIsInstance(node, (ast.Call, ast.Name, ast.Set))
                        seen.append(row.targets[0].id)
                    elif isinstance(row, ast.ImportFrom):
                        seen += [alias.name for alias in row.names]
                    else:
                        seen.append(row.name)
            self.assertEqual(len(seen), len(set(seen)))

    def test_tables_hold_no_tables(self):
        for name in FILES:
            with self.subTest(name=name):
                self.assertEqual(held_rows(source_of(name)), [])
            module = importlib.import_module("flowreprise" if name == "__init__.py" else "flowreprise." + name[:-3])
            for told, value in vars(module).items():
                # Python gives each module names of its own, which begin with two underscores.
                if not told.startswith("__"):
                    with self.subTest(name=name, told=told):
                        self.assertFalse(is_held(value))

    def test_tables_are_only_read(self):
        tables = set()
        for name in FILES:
            tables |= table_names(source_of(name))
        self.assertIn("OF_ONE", tables)
        self.assertNotIn("OF_INTEGERS", tables)
        for name in FILES:
            with self.subTest(name=name):
                self.assertEqual(kept_tables(source_of(name), tables), [])

    def test_what_the_tests_of_tables_say(self):
        wrong = ("{'a': ['b']}", "{'a': {}}", "[[]]", "[{}]", "([],)", "({},)", "(1, (2, [3]))", "{'a': (1, ({},))}",
                 "[(1, [2])]", "(1,) + ([2],)", "{'a': [1] + [2]}", "{'a': [k for k in 'ab']}", "({k: 1 for k in 'a'},)")
        for text in wrong:
            with self.subTest(text=text):
                self.assertEqual(held_rows("B = 1\n\nA = " + text), [3])
                self.assertTrue(is_held(eval(text)))
        for text in ("{'a': ('b',)}", "[1, (2, 3)]", "((1, 2), (3,))", "[1] + [2]", "{}", "()", "'[[1]]'", "[(), '']"):
            with self.subTest(text=text):
                self.assertEqual(held_rows("A = " + text), [])
                self.assertFalse(is_held(eval(text)))
        self.assertEqual(held_rows("def f():\n    return [[1]]"), [])
        self.assertEqual(table_names("A = [1]\nB = {}\nC = (1,)\nD = 'a'\nE = [1] + [2]"), {"A", "B", "E"})
        for text in ("A[k]", "k in A", "len(A)", "A.get(k)", "list(A)", "[k for k in A]"):
            self.assertEqual(kept_tables("def f(k):\n    return " + text, {"A"}), [])
        for text in ("A", "(A,)", "g(A)", "A.pop()", "A[k] or A", "k + A"):
            self.assertEqual(kept_tables("def f(k):\n    return " + text, {"A"}), [2])
        self.assertEqual(kept_tables("def f(k):\n    A[k] = 1\n    b = A", {"A"}), [2, 3])


class TestCode(unittest.TestCase):
    def test_nodes(self):
        for name in FILES:
            for node in ast.walk(ast.parse(source_of(name))):
                with self.subTest(name=name, line=getattr(node, "lineno", 0)):
                    self.assertNotIsInstance(node, UNUSED_NODES)
                    if isinstance(node, ast.Constant):
                        self.assertNotIsInstance(node.value, (float, complex, bytes))
                        if isinstance(node.value, str):
                            self.assertNotIn("%", node.value)
                            self.assertNotIn("__", node.value)
                    if isinstance(node, ast.Compare):
                        for sign, other in zip(node.ops, node.comparators):
                            if isinstance(sign, (ast.Is, ast.IsNot)):
                                self.assertIn(ast.unparse(other), ("None", "True", "False"))
                    if isinstance(node, (ast.FunctionDef, ast.ClassDef)):
                        self.assertEqual(node.decorator_list, [])
                        self.assertTrue(ast.get_docstring(node) or node.name.startswith("_"))

    def test_functions(self):
        for name in FILES:
            tree = ast.parse(source_of(name))
            heads = {alias.name for row in tree.body if isinstance(row, ast.ImportFrom) for alias in row.names}
            heads |= {row.name for row in tree.body if isinstance(row, ast.ClassDef)}
            own = heads | {row.name for row in tree.body if isinstance(row, ast.FunctionDef)}
            own |= {row.targets[0].id for row in tree.body if isinstance(row, ast.Assign)}
            for function in ast.walk(tree):
                if not isinstance(function, ast.FunctionDef):
                    continue
                with self.subTest(name=name, function=function.name):
                    self.assertLessEqual(function.end_lineno - function.lineno + 1, 40)
                    bound = set(bound_names(function))
                    self.assertFalse(bound & (heads | set(dir(builtins)) | UNUSED_NAMES))
                    self.assertNotIn(function.name, set(dir(builtins)) | UNUSED_NAMES)
                    for node in ast.walk(function):
                        if isinstance(node, ast.Name) and isinstance(node.ctx, ast.Load):
                            self.assertNotEqual(node.id, "_")
                            self.assertIn(node.id, bound | own | USED_BUILTINS)

    def test_lambdas(self):
        for name in FILES:
            lines = {}
            for node in ast.walk(ast.parse(source_of(name))):
                if isinstance(node, ast.Lambda):
                    told = (node.lineno, tuple(arg.arg for arg in node.args.args))
                    with self.subTest(name=name, line=node.lineno):
                        self.assertNotIn(told, lines)
                        self.assertEqual(node.args.defaults, [])
                    lines[told] = True

    def test_methods(self):
        own = {node.name for name in FILES for node in ast.walk(ast.parse(source_of(name)))
               if isinstance(node, ast.FunctionDef)}
        for name in FILES:
            for node in ast.walk(ast.parse(source_of(name))):
                if isinstance(node, ast.Call) and isinstance(node.func, ast.Attribute):
                    with self.subTest(name=name, line=node.lineno):
                        self.assertIn(node.func.attr, METHODS | own)
                if isinstance(node, ast.Attribute):
                    self.assertNotIn(node.attr, UNUSED_NAMES)
                    if isinstance(node.ctx, ast.Store):
                        self.assertNotIn(node.attr, UNUSED_ATTRIBUTES)


class TestInterface(unittest.TestCase):
    def test_functions_are_defined_in_their_files(self):
        for name, rows in INTERFACE.items():
            module = importlib.import_module("flowreprise." + name)
            for function, params in rows.items():
                with self.subTest(name=name, function=function):
                    owner, _, method = function.partition(".")
                    told = getattr(module, owner)
                    self.assertEqual(told.__module__, module.__name__)
                    if method:
                        # A method is defined in the class itself, not in a base class.
                        told = vars(told)[method]
                    self.assertEqual(list(inspect.signature(told).parameters), params.split())


if __name__ == "__main__":
    unittest.main()
