"""The package keeps to the subset of the language that it is written in, as far as a test can see it."""

import ast
import builtins
import re
import unittest
from pathlib import Path

ROOT = Path(__file__).resolve().parent.parent
PACKAGE = ROOT / "movedactors"
FILES = sorted(PACKAGE.glob("*.py"))

BUILTINS = set(
    "len range enumerate zip min max sum abs sorted reversed int str bool list tuple dict set isinstance ord repr any"
    " all divmod ValueError LookupError Exception".split()
)
VALUE_METHODS = set(
    "append clear copy count endswith extend find get index insert isalnum isalpha isdigit islower isspace isupper"
    " items"
    " join keys ljust lower lstrip partition pop remove replace reverse rfind rjust rpartition rsplit rstrip setdefault"
    " split splitlines startswith strip update upper values zfill bit_length".split()
)
BARRED_NAMES = set("register mro elements open input law version_info with_traceback add_note type".split())
BARRED_WORDS = set(
    "type typing typing_extensions enum Enum IntEnum StrEnum Flag IntFlag Generic Protocol ABC ABCMeta namedtuple"
    " NamedTuple TypedDict TYPE_CHECKING abstractmethod".split()
)
DUNDERS = {"__init__", "__eq__", "__repr__", "__str__", "__len__"}
STATEMENTS = (
    ast.FunctionDef, ast.ClassDef, ast.Return, ast.Delete, ast.Assign, ast.AugAssign, ast.For, ast.While, ast.If,
    ast.Raise, ast.Try, ast.Assert, ast.ImportFrom, ast.Expr, ast.Pass, ast.Break, ast.Continue,
)
EXPRESSIONS = (
    ast.BoolOp, ast.BinOp, ast.UnaryOp, ast.Lambda, ast.IfExp, ast.Dict, ast.Set, ast.ListComp, ast.SetComp,
    ast.DictComp, ast.Compare, ast.Call, ast.Constant, ast.Attribute, ast.Subscript, ast.Name, ast.List, ast.Tuple,
    ast.Slice,
)
INTERFACE = {
    "errors": (
        "ActorsError BadPaper BadMeaning BadControl BadWords NotNow MixedEditions NotClosable BadTerm BadBook"
        " BadEdition BadChange BadText BadSystem NotTurned TooLong NameMissing UnknownName NotThere NoControl NoActor"
    ),
    "words": "is_word is_name is_number",
    "books": "Book: sorts primitives ports reasons words count __eq__",
    "editions": (
        "Edition: book kinds roles tree kind role mode start body taken slots supervisors __eq__"
    ),
    "changes": "words_by_row Change: old new kinds roles rows of_kind of_role row with_rows __eq__",
    "printer": "book_text edition_text change_text",
    "reader": "read_book read_edition read_change",
    "terms": "is_variable wrong_part size depth variables part_at put_in",
    "solved": "Solved: made_equal holds normal equations twin __eq__",
    "classes": "Classes: is_same derivation first_wrong",
    "meanings": "value_of unlike by_classes Meaning: apply tables __eq__",
    "controls": "markings is_marking controls is_control takes starts started",
    "edges": "edge arrows first_history reached judge_shut",
    "handling": "put_edge value_edge count_makes first_stand first_state next_stand next_state",
    "walks": "is_possible walked lived valued",
    "raising": (
        "changed_words changed_terms changed_message start_words start_terms changed_start raised_deeds raised_values"
    ),
    "systems": (
        "System: meaning editions changes newest beginning addresses is_in birth lives edition state why road queue"
        " links watches said supply next_address team log place born renew put_state put_out heeds next_addresses"
        " put_on_road put_in_queue put_link put_watch put_said put_row take_off_road take_out_of_queue empty_queues"
        " take_away set_team twin __eq__"
    ),
    "reading": "is_message is_birth raised raised_birth elder_forms read",
    "supervisors": "names_of slots_of supervisor slot above beneath chosen",
    "going": "settled swept swept_paper judge_swept",
    "choices": "can make make_all open_choices",
    "logs": "first_false as_was touched are_apart",
    "views": "raised_log raised_row view seen_alike twin_begun twin_of",
    "joint": "Joint: change begun pairs variables arrivals heeds meeting history_of",
    "histories": "together unlike_place fails raised_life parted",
    "papers": "fits shows_row shows_alike",
    "obligations": "decide_role decide_row whole_paper",
    "defining": "holders fitted is_fitting",
    "refusals": "lost stands",
    "derived": "met derived derived_rows",
    "ranks": "rank ranks open_ports",
    "traps": "trapped judge_trap standing",
    "endings": "weight weights endless easing_ports judge_weights judge_endless",
    "closing": "closing greatest_change",
    "chains": "composed turned",
    "alike": "differences are_alike part_trees judge_trees is_closed",
    "squares": "is_total moved_state square",
    "rolling": "rolling moved_view part_role judge_role part_supervisor judge_supervisor",
    "converse": "part_change judge_change",
}


def trees():
    return [(path, ast.parse(path.read_text())) for path in FILES]


def assigned_names(function):
    """The parameters, local variables and nested functions of a function."""
    names = []
    for node in ast.walk(function):
        if isinstance(node, ast.arg):
            names.append(node.arg)
        elif isinstance(node, ast.Name) and not isinstance(node.ctx, ast.Load):
            names.append(node.id)
        elif isinstance(node, ast.FunctionDef) and node is not function:
            names.append(node.name)
        elif isinstance(node, ast.ExceptHandler) and node.name:
            names.append(node.name)
    return names


class Language(unittest.TestCase):
    def test_files(self):
        """L1, L10, L14: plain files of plain characters that are not too long."""
        for path in PACKAGE.iterdir():
            self.assertTrue(path.suffix == ".py" or path.name == "__pycache__", path)
            self.assertRegex(path.name, r"^[a-z_]+(\.py)?$")
        for path in FILES:
            lines = path.read_text().split("\n")
            self.assertLessEqual(len(lines), 399, path)
            for line in lines:
                self.assertLessEqual(len(line), 120, (path, line))
                self.assertRegex(line, r"^[ -~]*$", path)

    def test_statements_and_expressions(self):
        """L3 to L7: no other statements and expressions than those that are used here."""
        for path, tree in trees():
            for node in ast.walk(tree):
                if isinstance(node, ast.stmt):
                    self.assertIsInstance(node, STATEMENTS, (path, node.lineno))
                if isinstance(node, ast.expr):
                    self.assertIsInstance(node, EXPRESSIONS, (path, node.lineno))
                if isinstance(node, ast.Constant):
                    self.assertNotIsInstance(node.value, (float, complex, bytes), (path, node.lineno))
                self.assertNotIsInstance(node, (ast.Div, ast.MatMult, ast.Starred))
                if isinstance(node, (ast.FunctionDef, ast.ClassDef)):
                    self.assertEqual(node.decorator_list, [], (path, node.name))
                    self.assertTrue(isinstance(node, ast.ClassDef) or node.end_lineno - node.lineno < 40, node.name)
                    self.assertTrue(ast.get_docstring(node) or node.name.startswith("_"), (path, node.name))
                if isinstance(node, ast.arguments):
                    self.assertFalse(node.vararg or node.kwarg or node.defaults, path)
                    self.assertIn([arg.arg for arg in node.kwonlyargs], ([], ["first"]), path)
                if isinstance(node, ast.Assign):
                    self.assertEqual(len(node.targets), 1)

    def test_module_level(self):
        """L3, L15: imports, functions, classes and plain values alone, each name once."""
        for path, tree in trees():
            names = []
            for k, node in enumerate(tree.body):
                if isinstance(node, ast.Expr):
                    self.assertTrue(k == 0 and isinstance(node.value, ast.Constant), path)
                elif isinstance(node, ast.ImportFrom):
                    names.extend(alias.name for alias in node.names)
                elif isinstance(node, ast.Assign):
                    names.append(node.targets[0].id)
                    self.assertFalse([sub for sub in ast.walk(node) if isinstance(sub, (ast.Call, ast.List, ast.Dict))])
                else:
                    self.assertIsInstance(node, (ast.FunctionDef, ast.ClassDef), path)
                    names.append(node.name)
            self.assertEqual(len(names), len(set(names)), path)

    def test_imports(self):
        """L2, L16: by full names, from the file that defines what is imported, and in no circle."""
        defined = {}
        needs = {}
        for path, tree in trees():
            module = "movedactors." + path.stem
            defined[module] = {node.name for node in tree.body if isinstance(node, (ast.FunctionDef, ast.ClassDef))}
            defined[module] |= {node.targets[0].id for node in tree.body if isinstance(node, ast.Assign)}
            needs[module] = [node for node in tree.body if isinstance(node, ast.ImportFrom)]
        for module, imports in needs.items():
            for node in imports:
                self.assertEqual(node.level, 0)
                self.assertIn(node.module, defined, module)
                for alias in node.names:
                    self.assertIsNone(alias.asname)
                    self.assertIn(alias.name, defined[node.module], module)
        done = []
        while len(done) < len(needs):
            free = [m for m in needs if m not in done and all(node.module in done for node in needs[m])]
            self.assertTrue(free, "a circle of imports")
            done.extend(free)

    def test_imports_are_used(self):
        for path, tree in trees():
            used = {node.id for node in ast.walk(tree) if isinstance(node, ast.Name)}
            for node in tree.body:
                if isinstance(node, ast.ImportFrom):
                    for alias in node.names:
                        self.assertIn(alias.name, used, path)

    def test_names(self):
        """L8, L12, L15, L17: no name of a builtin, of a class or of an import has another meaning."""
        for path, tree in trees():
            taken = {alias.name for node in tree.body if isinstance(node, ast.ImportFrom) for alias in node.names}
            taken |= {node.name for node in tree.body if isinstance(node, ast.ClassDef)}
            everything = {node.name for node in tree.body if isinstance(node, (ast.FunctionDef, ast.ClassDef))}
            for function in [node for node in ast.walk(tree) if isinstance(node, ast.FunctionDef)]:
                for name in assigned_names(function):
                    self.assertNotIn(name, taken, (path, function.name))
                    everything.add(name)
            for name in everything:
                self.assertFalse(hasattr(builtins, name), (path, name))
                self.assertNotIn(name, BARRED_NAMES, path)
                self.assertRegex(name, r"^(_|_?[A-Za-z][A-Za-z0-9_]*)$")
            for node in ast.walk(tree):
                if isinstance(node, ast.Attribute):
                    self.assertNotIn(node.attr, BARRED_NAMES, path)

    def test_words(self):
        """L17, L27: words that do not stand in a file, and signs that do not stand in a string."""
        for path, tree in trees():
            for node in ast.walk(tree):
                if isinstance(node, ast.Constant) and isinstance(node.value, str):
                    self.assertNotIn("%", node.value, path)
                    self.assertFalse(node.value.startswith("__"), path)
                for name in [getattr(node, "id", ""), getattr(node, "attr", ""), getattr(node, "arg", "") or ""]:
                    self.assertNotIn(name, BARRED_WORDS, path)
            text = path.read_text()
            self.assertFalse(re.search(r"\b(_wall|_WallAttr)\b|dataclass|overload|contextmanager", text), path)

    def test_calls(self):
        """L8, L22, L25: builtins and methods that may be called."""
        methods = {node.name for _, tree in trees() for node in ast.walk(tree) if isinstance(node, ast.FunctionDef)}
        functions = methods | {node.name for _, tree in trees() for node in ast.walk(tree)
                               if isinstance(node, ast.ClassDef)}
        for path, tree in trees():
            own = [node for node in ast.walk(tree) if isinstance(node, ast.FunctionDef)]
            local = {name for node in own for name in assigned_names(node)}
            for node in [node for node in ast.walk(tree) if isinstance(node, ast.Call)]:
                where = (path, node.lineno)
                if isinstance(node.func, ast.Name):
                    self.assertIn(node.func.id, BUILTINS | functions | local, where)
                else:
                    self.assertIsInstance(node.func, ast.Attribute, where)
                    self.assertIn(node.func.attr, VALUE_METHODS | methods, where)
                for keyword in node.keywords:
                    told = (node.func.id, keyword.arg)
                    self.assertIn(told, [("max", "default"), ("sorted", "key"), ("System", "first")], where)

    def test_methods_are_called_where_they_stand(self):
        """L25: no method is passed on."""
        classes = [node for _, tree in trees() for node in ast.walk(tree) if isinstance(node, ast.ClassDef)]
        methods = {member.name for node in classes for member in node.body if isinstance(member, ast.FunctionDef)}
        attributes = {node.attr for _, tree in trees() for node in ast.walk(tree)
                      if isinstance(node, ast.Attribute) and isinstance(node.ctx, ast.Store)}
        for path, tree in trees():
            called = [node.func for node in ast.walk(tree) if isinstance(node, ast.Call)]
            for node in ast.walk(tree):
                if isinstance(node, ast.Attribute) and node.attr in (methods | VALUE_METHODS) - attributes:
                    self.assertIn(node, called, (path, node.lineno))

    def test_views_are_iterated_at_once(self):
        """L23: zip, enumerate, reversed, range, items, keys and values stand where they are iterated."""
        takers = {"list", "tuple", "dict", "sorted", "enumerate", "zip", "reversed"}
        for path, tree in trees():
            right = []
            for node in ast.walk(tree):
                if isinstance(node, (ast.For, ast.comprehension)):
                    right.append(node.iter)
                if isinstance(node, ast.Call) and isinstance(node.func, ast.Name) and node.func.id in takers:
                    right.extend(node.args[:1])
            for node in ast.walk(tree):
                if isinstance(node, ast.Call):
                    name = node.func.id if isinstance(node.func, ast.Name) else node.func.attr
                    if name in ("zip", "enumerate", "reversed", "range", "items", "keys", "values"):
                        self.assertIn(node, right, (path, node.lineno))

    def test_classes(self):
        """L5, L18, L28: methods are written once, and none has the name of an attribute of its class."""
        for path, tree in trees():
            for node in [node for node in ast.walk(tree) if isinstance(node, ast.ClassDef)]:
                methods = [member.name for member in node.body if isinstance(member, ast.FunctionDef)]
                self.assertEqual(len(methods), len(set(methods)), (path, node.name))
                attributes = {sub.attr for sub in ast.walk(node)
                              if isinstance(sub, ast.Attribute) and isinstance(sub.ctx, ast.Store)}
                self.assertFalse(attributes & set(methods), (path, node.name))
                for method in methods:
                    self.assertTrue(not method.startswith("__") or method in DUNDERS, (path, method))

    def test_comparing_by_is(self):
        """L20: is stands beside None, True and False alone."""
        for path, tree in trees():
            for node in ast.walk(tree):
                if isinstance(node, ast.Compare) and isinstance(node.ops[0], (ast.Is, ast.IsNot)):
                    self.assertIsInstance(node.comparators[0], ast.Constant, (path, node.lineno))

    def test_errors(self):
        """L19: own errors alone are caught and raised."""
        for path, tree in trees():
            for node in ast.walk(tree):
                if isinstance(node, ast.ExceptHandler):
                    caught = node.type.elts if isinstance(node.type, ast.Tuple) else [node.type]
                    for one in caught:
                        self.assertIn(one.id, ("WrongPart", "UnknownName", "BadPaper", "BadSystem", "NotNow"), path)
                if isinstance(node, ast.Raise):
                    self.assertIsInstance(node.exc, ast.Call, path)
                    self.assertFalse(hasattr(builtins, node.exc.func.id), path)

    def test_interface(self):
        """Each name of the interface is defined in its own file, each method in the body of its class."""
        for stem, names in INTERFACE.items():
            tree = ast.parse((PACKAGE / (stem + ".py")).read_text())
            functions, _, methods = names.partition(":")
            found = {node.name: node for node in tree.body if isinstance(node, (ast.FunctionDef, ast.ClassDef))}
            for name in functions.split():
                self.assertIn(name, found, stem)
            own = [member.name for member in found[functions.split()[-1]].body if isinstance(member, ast.FunctionDef)]
            for name in methods.split():
                self.assertIn(name, own, stem)


if __name__ == "__main__":
    unittest.main()
