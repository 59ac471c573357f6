"""The rules of the language that a program can check: every file of the package keeps them.

The numbers in the names of the tests are those of the rules.
"""

import ast
import builtins
import importlib
import inspect
import pathlib
import re
import unittest
import warnings

ROOT = pathlib.Path(__file__).resolve().parent.parent
PACKAGE = ROOT / "neverhappens"
FILES = {path.stem: path for path in sorted(PACKAGE.glob("*.py"))}
TEXTS = {name: path.read_text(encoding="utf-8") for name, path in FILES.items()}
TREES = {name: ast.parse(text) for name, text in TEXTS.items()}

STATEMENTS = (
    ast.FunctionDef, ast.ClassDef, ast.Return, ast.Assign, ast.AugAssign, ast.For, ast.While,
    ast.If, ast.Raise, ast.ImportFrom, ast.Expr, ast.Pass, ast.Break, ast.Continue, ast.Delete,
    ast.Try,
)
BUILTINS = (
    "len range enumerate zip min max sum abs sorted reversed int str bool list tuple dict"
    " isinstance repr any all divmod iter property ValueError"
).split()
METHODS = (
    "append clear copy count endswith extend find get index insert isdigit items join keys"
    " partition pop remove removeprefix removesuffix replace reverse rfind rpartition rstrip"
    " setdefault split startswith strip update values bit_length"
).split()
DUNDERS = ("__init__", "__len__", "__iter__", "__contains__")
BARRED = (
    "type typing typing_extensions enum Enum IntEnum StrEnum Flag IntFlag Generic Protocol ABC"
    " ABCMeta namedtuple NamedTuple TypedDict TYPE_CHECKING abstractmethod"
).split()
BARRED_NAMES = (
    "register mro elements open input law version_info with_traceback add_note attrgetter"
    " breakpoint builtins compile copyright credits delattr dir eval exec exit gc getattr globals"
    " hasattr help id importlib license locals methodcaller os quit setattr super type vars sys"
).split()

CHANGING = (
    "append clear extend insert pop remove reverse setdefault sort update heappop heappush"
).split()

LIBRARY = {"heapq": {"heappush", "heappop"}}

# The interface of the document: functions with their arguments, and classes with their methods.
INTERFACE = {
    "errors": {
        "NeverError": (), "BadText": (), "Twice": (), "Unknown": (), "BadKind": (),
        "WrongKind": (), "NoSite": (), "NoPlace": (), "NotAccepted": (), "BadCertificate": (),
        "WrongChange": (), "NotPlain": (), "BadWitness": (), "TooLong": (), "NothingLoaded": (),
        "NothingToUndo": (), "BadJournal": (),
    },
    "kinds": {
        "is_small": "kind", "is_large": "kind", "is_discrete": "kind", "kind_values": "kind",
        "start_value": "kind",
    },
    "printing": {
        "expression_text": "expression", "kind_text": "kind", "function_text": "function",
        "program_text": "program",
    },
    "reading": {"read_expression": "text", "read_function": "text", "read_program": "text"},
    "names": {"check_program": "program"},
    "layouts": {"Layout": ()},
    "values": {"evaluate": "expression values"},
    "plain": {"Machine": ("visit", "outcome", "state"), "run": "program inputs visits"},
    "graphs": {"nodes": "function", "heads": "function"},
    "walking": {"Walker": ("visit", "outcome", "state"), "walk": "program inputs visits"},
    "zones": {
        "close": "matrix", "range_box": "ranges", "bound": "box i j most", "join_boxes": "a b",
        "meet_boxes": "a b", "is_inside": "a b", "has_point": "box point", "range_of": "box i",
        "least_point": "box", "greatest_point": "box",
    },
    "boxes": {
        "add_columns": "box ranges", "pick_columns": "box columns", "free_column": "box i lo hi",
        "shift_column": "box i low high", "tie_boxes": "box other columns",
    },
    "forms": {"form_of": "expression known names box", "range_of_form": "form box"},
    "cuts": {
        "at_most": "box form most", "at_least": "box form least", "equal_to": "box form value",
        "assign": "box i form lo hi", "assume": "expression want known names box",
    },
    "keys": {
        "number_key": "program kinds values records fixed", "is_key": "program kinds key fixed",
    },
    "describing": {"rows_of_run": "program inputs visits"},
    "steps": {"arrive": "layout fixed place key box", "step": "layout fixed place key box"},
    "calls": {
        "enter": "layout callee place key box",
        "back": "layout fixed place key entered callee exit_key exit_box",
    },
    "rules": {"Rules": ("start", "faults", "moves", "backs")},
    "landmarks": {
        "landmarks": "layout", "round_box": "box ranges marks", "is_head": "layout place",
    },
    "tables": {
        "sort_rows": "program rows", "lower": "rules table", "first_table": "rules limit picks",
    },
    "analysis": {
        "Analysis": ("__len__", "__iter__", "__contains__"), "analyse": "program * limit rounds picks",
    },
    "checker": {"accepts": "program rows"},
    "certificates": {"certificate_text": "program rows", "read_certificate": "program text"},
    "changes": {
        "replace_function": "program function", "revise": "analysis function * picks",
    },
    "sites": {"sites": "program", "is_plain": "program"},
    "least": {"frame_visits": "analysis", "entry_visits": "analysis"},
    "verdicts": {
        "verdict": "analysis function place fault", "report": "analysis",
        "visited": "analysis function place", "holds": "analysis function place expression",
        "returns": "analysis function", "never_by": "program rows",
    },
    "witnesses": {
        "witness_rows": "program witness", "witness_visits": "program witness",
        "witness_inputs": "program witness * most",
        "find_witness": "analysis function place fault",
    },
    "hunting": {
        "hunt": "program function place fault * visits tries", "is_simple": "program",
    },
    "desk": {
        "Desk": (
            "load", "change", "undo", "ask", "answers", "certificate", "trial", "journal", "text", "kept",
            "__len__", "__iter__", "__contains__",
        ),
        "replay": "journal * limit rounds",
    },
}


def nodes_of(kinds):
    """The pairs of a file's name and a node of one of these kinds."""
    return [(name, node) for name, tree in TREES.items()
            for node in ast.walk(tree) if isinstance(node, kinds)]


def docstrings(tree):
    """The identities of the nodes that are docstrings."""
    holders = [node for node in ast.walk(tree)
               if isinstance(node, (ast.Module, ast.ClassDef, ast.FunctionDef))]
    return {id(node.body[0].value) for node in holders
            if node.body and isinstance(node.body[0], ast.Expr)}


def strings(tree):
    """The strings of a file that are no docstrings."""
    told = docstrings(tree)
    return [node.value for node in ast.walk(tree)
            if isinstance(node, ast.Constant) and isinstance(node.value, str)
            and id(node) not in told]


def bound_names(tree):
    """The names that a file binds at its module level."""
    found = []
    for node in tree.body:
        if isinstance(node, (ast.FunctionDef, ast.ClassDef)):
            found.append(node.name)
        elif isinstance(node, ast.Assign):
            found.extend(target.id for target in node.targets)
        elif isinstance(node, ast.ImportFrom):
            found.extend(alias.asname or alias.name for alias in node.names)
    return found


def local_names(tree):
    """The parameters and local variables of all functions of a file."""
    found = [node.arg for node in ast.walk(tree) if isinstance(node, ast.arg)]
    for function in ast.walk(tree):
        if isinstance(function, ast.FunctionDef):
            found.extend(node.id for node in ast.walk(function)
                         if isinstance(node, ast.Name) and isinstance(node.ctx, ast.Store))
    return found


def held(node):
    """The text of the variable or attribute that a node is, or is an item of, otherwise None."""
    while isinstance(node, ast.Subscript):
        node = node.value
    inner = node
    while isinstance(inner, ast.Attribute):
        inner = inner.value
    return ast.unparse(node) if isinstance(inner, ast.Name) else None


def walked(node):
    """What is iterated over itself, no copy of it, where a loop goes over this node."""
    if isinstance(node, ast.Call):
        if isinstance(node.func, ast.Attribute) and node.func.attr in ("items", "keys", "values"):
            return walked(node.func.value)
        if isinstance(node.func, ast.Name) and node.func.id in ("enumerate", "zip", "reversed"):
            return [found for part in node.args for found in walked(part)]
        return []
    if isinstance(node, (ast.IfExp, ast.BoolOp)):
        parts = node.values if isinstance(node, ast.BoolOp) else (node.body, node.orelse)
        return [found for part in parts for found in walked(part)]
    return [held(node)] if held(node) is not None else []


def changed(nodes):
    """The variables and attributes that these statements change by items, methods or `+=`."""
    found = []
    for node in [part for node in nodes for part in ast.walk(node)]:
        if isinstance(node, ast.Subscript) and not isinstance(node.ctx, ast.Load):
            found.append(held(node))
        elif isinstance(node, ast.AugAssign):
            found.append(held(node.target))
        elif isinstance(node, ast.Call) and isinstance(node.func, ast.Attribute):
            found.extend([held(node.func.value)] if node.func.attr in CHANGING else [])
        elif isinstance(node, ast.Call) and node.func.id in CHANGING:
            found.append(held(node.args[0]))
    return set(found) - {None}


def shared_names(function):
    """For each variable and attribute that is assigned another one, all that may be one list with it."""
    groups = {}
    for node in ast.walk(function):
        if isinstance(node, ast.Assign):
            for target in node.targets:
                pairs = [(target, node.value)]
                if isinstance(target, ast.Tuple) and isinstance(node.value, ast.Tuple):
                    pairs = zip(target.elts, node.value.elts)
                for left, right in pairs:
                    names = {held(left), *walked(right)} - {None}
                    group = names.union(*[groups.get(name, set()) for name in names])
                    groups.update({name: group for name in group})
    return groups


class TestFiles(unittest.TestCase):
    def test_l1_l14_files(self):
        for path in PACKAGE.rglob("*"):
            if path.name != "__pycache__" and path.parent.name != "__pycache__":
                self.assertTrue(re.fullmatch("[a-z_]+[.]py", path.name), path)
        self.assertIn("__init__", FILES)
        self.assertLessEqual(len(FILES), 100)

    def test_l10_sizes(self):
        for name, text in TEXTS.items():
            lines = text.split("\n")
            self.assertLessEqual(len(lines), 399, name)
            for line in lines:
                self.assertLessEqual(len(line), 120, name)
        for name, node in nodes_of(ast.FunctionDef):
            self.assertLessEqual(node.end_lineno - node.lineno + 1, 40, (name, node.name))

    def test_l14_l10_characters(self):
        for name, text in TEXTS.items():
            self.assertLessEqual(set(text), set(map(chr, range(32, 127))) | {"\n"}, name)

    def test_l27_no_warnings(self):
        for name, text in TEXTS.items():
            with warnings.catch_warnings():
                warnings.simplefilter("error")
                compile(text, name, "exec")


class TestImports(unittest.TestCase):
    def imports(self):
        return nodes_of((ast.Import, ast.ImportFrom))

    def test_l2_l16_forms(self):
        for name, node in self.imports():
            self.assertIsInstance(node, ast.ImportFrom, name)
            self.assertEqual(node.level, 0, name)
            if node.module in LIBRARY:
                self.assertLessEqual({alias.name for alias in node.names}, LIBRARY[node.module])
                self.assertEqual({alias.asname for alias in node.names}, {None})
                continue
            self.assertTrue(node.module.startswith("neverhappens."), name)
            self.assertIn(node, TREES[name].body, name)
            for alias in node.names:
                self.assertIsNone(alias.asname)
                self.assertIn(alias.name, self.defined(node.module.split(".")[1]), name)

    def defined(self, name):
        """The names that a file defines itself."""
        nodes = [node for node in TREES[name].body if not isinstance(node, ast.ImportFrom)]
        return bound_names(ast.Module(nodes, []))

    def test_l2_the_library_is_called_on_the_spot(self):
        for name, tree in TREES.items():
            names = {alias.name for node in tree.body if isinstance(node, ast.ImportFrom)
                     and node.module in LIBRARY for alias in node.names}
            called = {id(node.func) for node in ast.walk(tree)
                      if isinstance(node, ast.Call) and not node.keywords}
            for node in ast.walk(tree):
                if isinstance(node, ast.Name) and node.id in names:
                    self.assertIn(id(node), called, name)

    def test_l2_every_import_is_used(self):
        for name, tree in TREES.items():
            used = {node.id for node in ast.walk(tree) if isinstance(node, ast.Name)}
            for node in tree.body:
                if isinstance(node, ast.ImportFrom):
                    for alias in node.names:
                        self.assertIn(alias.name, used, name)

    def test_l16_no_circles(self):
        leads = {name: {node.module.split(".")[1] for node in tree.body
                        if isinstance(node, ast.ImportFrom) and node.module not in LIBRARY}
                 for name, tree in TREES.items()}
        while leads:
            free = [name for name, others in leads.items() if not others & set(leads)]
            self.assertTrue(free, leads)
            for name in free:
                del leads[name]


class TestStatements(unittest.TestCase):
    def test_l3_module_level(self):
        for name, tree in TREES.items():
            for at, node in enumerate(tree.body):
                if isinstance(node, ast.Expr):
                    self.assertEqual(at, 0, name)
                    self.assertIsInstance(node.value.value, str)
                else:
                    self.assertIsInstance(
                        node, (ast.ImportFrom, ast.FunctionDef, ast.ClassDef, ast.Assign), name)
                if isinstance(node, ast.Assign):
                    self.assertEqual(len(node.targets), 1, name)
                    for part in ast.walk(node.value):
                        self.assertIsInstance(part, (
                            ast.Constant, ast.Tuple, ast.Dict, ast.Name, ast.Load, ast.UnaryOp,
                            ast.USub), name)

    def test_l4_functions(self):
        holders = {id(part): node for _, node in nodes_of(ast.ClassDef) for part in node.body}
        for name, node in nodes_of((ast.FunctionDef, ast.ClassDef)):
            for decorator in node.decorator_list:
                self.assertEqual(decorator.id, "property", name)
                self.assertIn(id(node), holders, name)
            if isinstance(node, ast.FunctionDef):
                self.assertIsNone(node.args.vararg)
                self.assertIsNone(node.args.kwarg)
                for default in [*node.args.defaults, *node.args.kw_defaults]:
                    if not isinstance(default, ast.Tuple) or default.elts:
                        # A name stands for a plain value of the file (test_l3_module_level).
                        self.assertIsInstance(default, (ast.Constant, ast.Name), name)

    def test_l5_properties_and_operators(self):
        """They are so short that they change and call nothing."""
        for name, node in nodes_of(ast.FunctionDef):
            if node.decorator_list or node.name in ("__len__", "__iter__", "__contains__"):
                told = [part for part in node.body
                        if not isinstance(part, ast.Expr) or not isinstance(part.value, ast.Constant)]
                self.assertEqual([ast.Return], list(map(type, told)), (name, node.name))
                for part in ast.walk(told[0]):
                    if isinstance(part, ast.Call):
                        self.assertIn(part.func.id, ("len", "iter"))

    def test_l5_l28_classes(self):
        for name, node in nodes_of(ast.ClassDef):
            self.assertIn(node, TREES[name].body)
            for part in node.body[1:]:
                self.assertIsInstance(part, (ast.FunctionDef,), node.name)
                if part.name.startswith("__"):
                    self.assertIn(part.name, DUNDERS)
            named = [part.name for part in node.body if isinstance(part, ast.FunctionDef)]
            self.assertEqual(len(named), len(set(named)), node.name)

    def test_l6_statements(self):
        for name, node in nodes_of(ast.stmt):
            self.assertIsInstance(node, STATEMENTS, (name, node.lineno))

    def test_l7_expressions(self):
        for name, node in nodes_of((
            ast.NamedExpr, ast.Await, ast.Yield, ast.YieldFrom, ast.Set, ast.SetComp,
            ast.GeneratorExp, ast.Div, ast.MatMult, ast.Pow, ast.AnnAssign,
        )):
            self.fail((name, node.lineno))
        for name, node in nodes_of(ast.Constant):
            self.assertIsInstance(node.value, (int, str, type(None)), (name, node.lineno))

    def test_l22_lambdas(self):
        """They are keys by which lists are sorted, or least and greatest ones found."""
        keyed = {id(keyword.value) for _, node in nodes_of(ast.Call) for keyword in node.keywords
                 if keyword.arg == "key" and node.func.id in ("sorted", "min", "max")}
        for name, node in nodes_of(ast.Lambda):
            self.assertIn(id(node), keyed, (name, node.lineno))

    def test_l7_stars_in_calls(self):
        for name, node in nodes_of(ast.Call):
            for part in node.args:
                if isinstance(part, ast.Starred):
                    self.assertIsInstance(part.value, (ast.Name, ast.Attribute), name)
            self.assertNotIn(None, [keyword.arg for keyword in node.keywords])

    def test_l23_l5_loops_change_nothing_that_they_walk(self):
        """Not by another name for it in the same function, either."""
        for name, function in nodes_of(ast.FunctionDef):
            groups = shared_names(function)
            for node in ast.walk(function):
                if isinstance(node, ast.For):
                    for found in walked(node.iter):
                        shared = groups.get(found, {found})
                        self.assertFalse(shared & changed(node.body), (name, node.lineno, found))

    def test_l25_methods_are_called_where_they_stand(self):
        methods = {node.name for _, holder in nodes_of(ast.ClassDef) for node in holder.body
                   if isinstance(node, ast.FunctionDef) and not node.decorator_list}
        called = {id(node.func) for _, node in nodes_of(ast.Call)}
        stored = {node.attr for _, node in nodes_of(ast.Attribute) if isinstance(node.ctx, ast.Store)}
        for name, node in nodes_of(ast.Attribute):
            if node.attr in {*methods, *METHODS} - stored:
                self.assertTrue(id(node) in called, (name, node.lineno))

    def test_l19_only_own_errors_are_caught(self):
        for name, node in nodes_of(ast.Try):
            self.assertEqual(node.finalbody, [], name)
            for handler in node.handlers:
                self.assertIn(handler.type.id, ("NeverError", "TooManyCases"), name)
                self.assertIsNone(handler.name, name)
        for name, node in nodes_of(ast.Raise):
            self.assertIsInstance(node.exc, ast.Call, name)
            self.assertIn(node.exc.func.id, [*INTERFACE["errors"], "TooManyCases"], name)
            self.assertIsNone(node.cause, name)

    def test_l20_is(self):
        for name, node in nodes_of(ast.Compare):
            for operator, right in zip(node.ops, node.comparators):
                if isinstance(operator, (ast.Is, ast.IsNot)):
                    self.assertIsInstance(right, ast.Constant, (name, node.lineno))
                    self.assertIn(repr(right.value), ("None", "True", "False"))

    def test_l21_no_annotations(self):
        for name, node in nodes_of(ast.FunctionDef):
            self.assertIsNone(node.returns, name)
        for name, node in nodes_of(ast.arg):
            self.assertIsNone(node.annotation, name)


class TestNames(unittest.TestCase):
    def test_l8_builtins(self):
        for name, tree in TREES.items():
            known = {*bound_names(tree), *local_names(tree)}
            for node in ast.walk(tree):
                if isinstance(node, ast.Name) and node.id not in known and node.id != "super":
                    self.assertIn(node.id, BUILTINS, (name, node.lineno))

    def test_l5_super(self):
        for name, node in nodes_of(ast.Name):
            if node.id == "super":
                self.assertIn(name, ("errors", "parting"))
        for text in TEXTS.values():
            self.assertEqual(text.count("super"), text.count("super().__init__("))

    def test_l12_names(self):
        for name, tree in TREES.items():
            for found in [*bound_names(tree), *local_names(tree)]:
                self.assertTrue(re.fullmatch("_|[A-Za-z][A-Za-z0-9_]*", found), (name, found))

    def test_l15_bound_once(self):
        for name, tree in TREES.items():
            names = bound_names(tree)
            self.assertEqual(len(names), len(set(names)), name)
            for found in local_names(tree):
                self.assertNotIn(found, names, name)
            for found in [*names, *local_names(tree)]:
                self.assertFalse(hasattr(builtins, found), (name, found))

    def test_l17_names(self):
        for name, tree in TREES.items():
            methods = [node.name for node in ast.walk(tree) if isinstance(node, ast.FunctionDef)]
            for found in [*bound_names(tree), *local_names(tree), *methods]:
                self.assertNotIn(found, BARRED_NAMES, name)
            for node in ast.walk(tree):
                if isinstance(node, (ast.Attribute, ast.keyword)):
                    found = node.attr if isinstance(node, ast.Attribute) else node.arg
                    self.assertNotIn(found, BARRED_NAMES[:9], name)

    def test_l17_words(self):
        for name, tree in TREES.items():
            words = [word for text in strings(tree) for word in re.findall("[A-Za-z_]+", text)]
            for node in ast.walk(tree):
                for field in ("id", "attr", "name", "arg"):
                    words.append(getattr(node, field, None))
            for word in words:
                self.assertNotIn(word, BARRED, name)

    def test_l18_l26_attributes(self):
        methods = {node.name for _, holder in nodes_of(ast.ClassDef)
                   for node in holder.body if isinstance(node, ast.FunctionDef)}
        stored = {node.attr for _, node in nodes_of(ast.Attribute) if isinstance(node.ctx, ast.Store)}
        values = [str, int, list, dict, set, bytes, tuple]
        allowed = set("count index title find get join lower upper split strip copy add".split())
        self.assertEqual(methods & stored, set())
        for found in (methods | stored) - allowed:
            if not found.startswith("__"):
                self.assertFalse(any(hasattr(kind, found) for kind in values), found)
        for _, node in nodes_of(ast.Attribute):
            if isinstance(node.ctx, ast.Load):
                self.assertIn(node.attr, [*methods, *stored, *METHODS])


class TestStrings(unittest.TestCase):
    def test_l27_strings(self):
        for name, tree in TREES.items():
            for text in strings(tree):
                self.assertNotIn("%", text, name)
                self.assertFalse(text.endswith(("._", ".__")), name)
            for escape in re.findall(r"\\.", TEXTS[name]):
                self.assertIn(escape, ("\\n", "\\\\", "\\\"", "\\t"), name)

    def test_l27_l7_f_strings(self):
        for name, node in nodes_of(ast.FormattedValue):
            self.assertIsNone(node.format_spec, name)
            self.assertEqual(node.conversion, -1, name)
            for part in ast.walk(node.value):
                self.assertFalse(isinstance(part, ast.Constant) and isinstance(part.value, str), name)


def arguments(made):
    """The names of the arguments, with a star before those that are passed by name."""
    found = []
    for name, parameter in inspect.signature(made).parameters.items():
        if parameter.kind == parameter.KEYWORD_ONLY and "*" not in found:
            found.append("*")
        found.append(name)
    return found


class TestInterface(unittest.TestCase):
    def test_everything_stands_in_its_file(self):
        for name, listed in INTERFACE.items():
            defined = {node.name: node for node in TREES[name].body
                       if isinstance(node, (ast.FunctionDef, ast.ClassDef))}
            for found, told in listed.items():
                if isinstance(told, str):
                    self.assertIsInstance(defined[found], ast.FunctionDef)
                    module = importlib.import_module("neverhappens." + name)
                    self.assertEqual(arguments(getattr(module, found)), told.split(), found)
                else:
                    self.assertIsInstance(defined[found], ast.ClassDef)
                    methods = [node.name for node in defined[found].body
                               if isinstance(node, ast.FunctionDef)]
                    self.assertLessEqual(set(told), set(methods), found)

    def test_arguments_of_the_classes(self):
        for name, found, told in (
            ("layouts", "Layout", ["program", "name"]),
            ("plain", "Machine", ["program", "inputs"]),
            ("walking", "Walker", ["program", "inputs"]),
            ("rules", "Rules", ["program"]),
            ("desk", "Desk", ["*", "limit", "rounds"]),
        ):
            made = getattr(importlib.import_module("neverhappens." + name), found)
            self.assertEqual(arguments(made), told)


if __name__ == "__main__":
    unittest.main()
