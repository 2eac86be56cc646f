"""The form of the code: rules of LANGUAGE.md that can be checked by reading the files of the package.

Some rules are narrower here than there: the package does without much of what they would allow.
"""

import ast
import builtins
import pathlib
import re
import unittest

PACKAGE = pathlib.Path(__file__).resolve().parent.parent / "wardens"
BUILTINS = set(
    "len range enumerate zip min max sum abs sorted reversed int str bool list tuple dict set isinstance ord "
    "repr any all divmod super map iter next Exception ValueError TypeError KeyError IndexError "
    "LookupError ZeroDivisionError ArithmeticError OverflowError RuntimeError NotImplementedError "
    "NotImplemented".split()
)
METHODS = set(
    "append clear copy count endswith extend find get index insert isalnum isalpha isdigit islower isspace "
    "isupper items join keys ljust lower lstrip partition pop remove replace reverse rfind rjust rpartition "
    "rsplit rstrip setdefault split splitlines startswith strip update upper values zfill bit_length sort "
    "add discard __init__".split()
)
LIBRARY = {
    "heapq": {"heappush", "heappop", "heapify"}, "math": {"gcd", "lcm", "isqrt"},
    "itertools": {"product", "combinations", "permutations", "chain", "accumulate", "pairwise"},
    "collections": {"defaultdict"},
}
SPECIAL_METHODS = {"__init__", "__eq__", "__repr__", "__str__", "__len__"}
BARRED_NAMES = set(
    "register mro elements open input law version_info with_traceback add_note attrgetter breakpoint "
    "builtins compile copyright credits delattr dir eval exec exit gc globals help id importlib license "
    "locals methodcaller os quit type vars sys args encode decode hex fromhex format format_map".split()
)
BARRED_WORDS = set(
    "type typing typing_extensions enum Enum IntEnum StrEnum Flag IntFlag Generic Protocol ABC ABCMeta "
    "namedtuple NamedTuple TypedDict TYPE_CHECKING abstractmethod".split()
)
BARRED_NODES = (
    ast.Global, ast.AsyncFunctionDef, ast.AsyncFor, ast.AsyncWith, ast.Await, ast.Div, ast.MatMult,
    ast.AnnAssign, ast.Import, ast.Nonlocal, ast.Match, ast.With, ast.Yield, ast.YieldFrom, ast.NamedExpr,
    ast.Set, ast.SetComp,
)
INTERFACE = {
    "errors": "WardenError SourceError NotFound TooMany NotARun WrongChoices OtherReadings NoFit NameTaken "
              "NoRequirement BadMonitor",
    "limits": "",
    "words": "words_of",
    "parsing": "parse parse_expression",
    "printing": "print_expression print_source",
    "names": "problems compile_source",
    "terms": "value_of is_true",
    "moves": "count_next next_values leads_to",
    "unfolding": "count_first first_values unfold is_run shortest_to dead_ends",
    "readings": "can_show count_readings readings_at possible_readings simulate readings_of",
    "facts": "label",
    "memory": "facts_in weight first_memory next_memory meets",
    "tracking": "track evaluate shortest_run",
    "judging": "set_after verdict_of judge",
    "minimal": "reduce",
    "monitors": "build says same settled",
    "trials": "cover separators trials",
    "sheets": "print_monitor parse_monitor",
    "twins": "share shared_reading twins",
    "delays": "delay doubt hidden confused tolerance",
    "recent": "recent_judge recent_delay least_memory",
    "doors": "unfold_text judge_text build_text delay_text hidden_text example_text differ_text",
    "watch": "Warden Fleet",
}
ARGUMENTS = {
    "count_next": "plant values most", "next_values": "plant values most", "leads_to": "plant values later",
    "count_first": "plant", "first_values": "plant", "unfold": "plant most", "is_run": "plant run",
    "shortest_to": "machine wanted", "dead_ends": "machine",
    "can_show": "plant values reading", "count_readings": "plant values most", "readings_at": "plant values",
    "possible_readings": "plant machine most", "simulate": "plant choices most",
    "readings_of": "plant run choices most", "label": "machine fact",
    "facts_in": "requirement", "weight": "requirement", "first_memory": "requirement holds",
    "next_memory": "requirement memory holds", "meets": "requirement memory",
    "track": "machine requirement most", "evaluate": "plant machine requirement run",
    "shortest_run": "tracked wanted", "set_after": "plant tracked members reading",
    "verdict_of": "tracked members", "judge": "plant tracked row", "reduce": "monitor",
    "build": "plant tracked readings most", "says": "monitor row", "same": "monitor other", "settled": "monitor",
    "cover": "monitor", "separators": "monitor", "trials": "monitor extra most", "print_monitor": "monitor",
    "parse_monitor": "text", "share": "plant values other", "shared_reading": "plant values other",
    "twins": "plant tracked most",
    "delay": "plant tracked most", "doubt": "plant tracked most", "hidden": "plant tracked ticks most",
    "confused": "plant tracked most", "tolerance": "plant tracked sensor ticks most",
    "recent_judge": "plant tracked row memory", "recent_delay": "plant tracked memory most",
    "least_memory": "plant tracked ticks most", "unfold_text": "source", "judge_text": "source requirement row",
    "build_text": "source requirement", "delay_text": "source requirement",
    "hidden_text": "source requirement ticks", "example_text": "source requirement",
    "differ_text": "source requirement other",
}
KEYWORDS = {"parse_expression": ["whole"], "print_expression": ["whole"], "example_text": ["met"]}
CLASSES = {
    "Warden": {"__init__": "self source", "read": "self reading", "verdicts": "self", "readings": "self",
               "explain": "self requirement met", "back": "self"},
    "Fleet": {"__init__": "self", "put": "self name source", "drop": "self name", "read": "self name reading",
              "verdicts": "self", "alarms": "self", "names": "self", "back": "self"},
}


def files():
    return sorted(PACKAGE.rglob("*.py"))


def tree_of(path):
    return ast.parse(path.read_text(encoding="utf-8"))


def each_tree():
    return [(path, tree_of(path)) for path in files()]


def functions_in(tree):
    return [node for node in ast.walk(tree) if isinstance(node, ast.FunctionDef)]


def bound_names(tree):
    """The names that a file gives to anything but attributes and imports."""
    names = []
    for node in ast.walk(tree):
        if isinstance(node, (ast.FunctionDef, ast.ClassDef)):
            names.append(node.name)
        elif isinstance(node, ast.arg):
            names.append(node.arg)
        elif isinstance(node, ast.Name) and isinstance(node.ctx, ast.Store):
            names.append(node.id)
        elif isinstance(node, ast.ExceptHandler) and node.name is not None:
            names.append(node.name)
    return names


def docstrings_in(tree):
    holders = [node for node in ast.walk(tree) if isinstance(node, (ast.Module, ast.ClassDef, ast.FunctionDef))]
    return [node.body[0].value for node in holders if ast.get_docstring(node) is not None]


class TestForm(unittest.TestCase):
    def test_package_holds_only_files_of_python(self):
        for path in PACKAGE.rglob("*"):
            if "__pycache__" not in path.parts and path.is_file():
                self.assertRegex(path.name, r"^(__init__|[a-z][a-z0-9_]*)\.py$")
                self.assertFalse(path.stem.startswith("test"))
                self.assertNotIn(path.stem, dir(builtins))

    def test_sizes_and_characters(self):
        for path, tree in each_tree():
            text = path.read_text(encoding="utf-8")
            lines = text.split("\n")
            self.assertLessEqual(len(lines) - 1, 399)
            self.assertLessEqual(max(len(line) for line in lines), 120)
            self.assertTrue(all(character == "\n" or " " <= character <= "~" for character in text))
            for function in functions_in(tree):
                self.assertLessEqual(function.end_lineno - function.lineno + 1, 40, function.name)

    def test_module_level(self):
        for _, tree in each_tree():
            for node in tree.body:
                plain = isinstance(node, ast.Assign) and isinstance(node.targets[0], ast.Name)
                docstring = isinstance(node, ast.Expr) and isinstance(node.value, ast.Constant)
                known = isinstance(node, (ast.ImportFrom, ast.FunctionDef, ast.ClassDef))
                self.assertTrue(plain or docstring or known, ast.dump(node))

    def test_imports(self):
        definitions = {path.stem: {node.name for node in tree_of(path).body if hasattr(node, "name")}
                       | {name.id for node in tree_of(path).body if isinstance(node, ast.Assign)
                          for name in node.targets} for path in files()}
        imported = {}
        for path, tree in each_tree():
            imported[path.stem] = set()
            for node in tree.body:
                if not isinstance(node, ast.ImportFrom):
                    continue
                names = {name.name for name in node.names}
                self.assertTrue(all(name.asname is None for name in node.names))
                if node.module in LIBRARY:
                    self.assertLessEqual(names, LIBRARY[node.module])
                    continue
                package, module = node.module.split(".")
                self.assertEqual((package, node.level), ("wardens", 0))
                self.assertLessEqual(names, definitions[module])
                imported[path.stem].add(module)
        self.check_no_circle(imported)

    def check_no_circle(self, imported):
        left = dict(imported)
        while left:
            free = [name for name in left if not imported[name] & set(left)]
            self.assertTrue(free, left)
            for name in free:
                del left[name]

    def test_nodes_that_are_not_used(self):
        for _, tree in each_tree():
            for node in ast.walk(tree):
                self.assertNotIsInstance(node, BARRED_NODES)
                if isinstance(node, (ast.FunctionDef, ast.ClassDef)):
                    self.assertEqual(node.decorator_list, [])
                if isinstance(node, (ast.FunctionDef, ast.arg)):
                    self.assertIsNone(node.returns if isinstance(node, ast.FunctionDef) else node.annotation)
                if isinstance(node, ast.Constant):
                    self.assertNotIsInstance(node.value, (float, complex, bytes))
                if isinstance(node, (ast.ListComp, ast.DictComp, ast.GeneratorExp)):
                    self.assertLessEqual(len(node.generators), 6)

    def test_strings(self):
        for path, tree in each_tree():
            for node in ast.walk(tree):
                if isinstance(node, ast.Constant) and isinstance(node.value, str):
                    self.assertNotIn("%", node.value)
                    self.assertFalse(node.value.endswith(("._", ".__")), node.value)
                    self.assertFalse(node.value.startswith("__"), node.value)
            for escape in re.findall(r"\\(.)", path.read_text(encoding="utf-8")):
                self.assertIn(escape, "nt\\\"'")

    def test_words_that_do_not_occur(self):
        for path, tree in each_tree():
            documented = {id(node) for node in docstrings_in(tree)}
            strings = [node.value for node in ast.walk(tree) if isinstance(node, ast.Constant)
                       and isinstance(node.value, str) and id(node) not in documented]
            names = [node.id for node in ast.walk(tree) if isinstance(node, ast.Name)]
            attributes = [node.attr for node in ast.walk(tree) if isinstance(node, ast.Attribute)]
            words = set(re.findall(r"\w+", " ".join(strings + names + attributes)))
            self.assertFalse(words & BARRED_WORDS)
            self.assertNotRegex(path.read_text(encoding="utf-8"), "_wall|_WallAttr")

    def test_names(self):
        for _, tree in each_tree():
            taken = {name.name for node in tree.body if isinstance(node, ast.ImportFrom) for name in node.names}
            taken |= {node.name for node in tree.body if isinstance(node, ast.ClassDef)}
            local = [name for function in functions_in(tree) for name in bound_names(function)]
            for name in bound_names(tree):
                self.assertRegex(name, r"^(_?[A-Za-z][A-Za-z0-9_]*|_|__[a-z]+__)$")
                self.assertNotIn(name, BARRED_NAMES)
                self.assertFalse(hasattr(builtins, name) and name not in SPECIAL_METHODS, name)
            self.assertFalse(set(local) & taken)
            for node in ast.walk(tree):
                if isinstance(node, ast.Name) and isinstance(node.ctx, ast.Load):
                    self.assertNotEqual(node.id, "_")

    def test_each_name_is_bound_once_at_module_level(self):
        for _, tree in each_tree():
            names = [node.name for node in tree.body if hasattr(node, "name")]
            names += [node.targets[0].id for node in tree.body if isinstance(node, ast.Assign)]
            names += [name.name for node in tree.body if isinstance(node, ast.ImportFrom) for name in node.names]
            self.assertEqual(len(names), len(set(names)))

    def test_methods_and_builtins(self):
        own = {function.name for path in files() for function in functions_in(tree_of(path))}
        for _, tree in each_tree():
            for node in ast.walk(tree):
                if isinstance(node, ast.Call) and isinstance(node.func, ast.Attribute):
                    self.assertIn(node.func.attr, METHODS | own)
                if isinstance(node, ast.Name) and hasattr(builtins, node.id):
                    self.assertIn(node.id, BUILTINS)
            for node in tree.body:
                if isinstance(node, ast.ClassDef):
                    special = {method.name for method in functions_in(node) if method.name.startswith("__")}
                    self.assertLessEqual(special, SPECIAL_METHODS)

    def test_methods_are_called_where_they_stand(self):
        for _, tree in each_tree():
            methods = {method.name for node in tree.body if isinstance(node, ast.ClassDef)
                       for method in functions_in(node)}
            called = {id(node.func) for node in ast.walk(tree) if isinstance(node, ast.Call)}
            for node in ast.walk(tree):
                if isinstance(node, ast.Attribute) and node.attr in methods:
                    self.assertIn(id(node), called, node.attr)

    def test_attributes_are_no_methods_of_builtin_values(self):
        for _, tree in each_tree():
            for node in ast.walk(tree):
                if isinstance(node, ast.Attribute) and isinstance(node.ctx, ast.Store):
                    self.assertFalse(
                        any(hasattr(value, node.attr) for value in ("", 0, [], {}, b"", (), set())), node.attr
                    )

    def test_errors_are_caught_by_name(self):
        for _, tree in each_tree():
            for node in ast.walk(tree):
                if isinstance(node, ast.ExceptHandler):
                    self.assertIsInstance(node.type, ast.Name)
                    self.assertNotIn(node.type.id, ("Exception", "ValueError", "TypeError", "RuntimeError"))
                if isinstance(node, ast.Raise) and node.exc is not None:
                    self.assertIsInstance(node.exc, ast.Call)
                    self.assertIsInstance(node.exc.func, ast.Name)

    def test_interface_is_defined_where_it_is_listed(self):
        for path, tree in each_tree():
            found = {node.name for node in tree.body if isinstance(node, (ast.FunctionDef, ast.ClassDef))}
            self.assertLessEqual(set(INTERFACE.get(path.stem, "").split()), found)

    def test_arguments_of_the_interface(self):
        for path, tree in each_tree():
            listed = INTERFACE.get(path.stem, "").split()
            for node in tree.body:
                if isinstance(node, ast.FunctionDef) and node.name in listed and node.name in ARGUMENTS:
                    self.assertEqual([argument.arg for argument in node.args.args], ARGUMENTS[node.name].split())
                if isinstance(node, ast.FunctionDef) and node.name in listed:
                    keywords = [argument.arg for argument in node.args.kwonlyargs]
                    self.assertEqual(keywords, KEYWORDS.get(node.name, []))

    def test_methods_of_the_interface(self):
        found = {node.name: {method.name: " ".join(argument.arg for argument in method.args.args)
                             for method in functions_in(node)}
                 for _, tree in each_tree() for node in tree.body if isinstance(node, ast.ClassDef)}
        for name, methods in CLASSES.items():
            self.assertLessEqual(set(methods.items()), set(found[name].items()))


if __name__ == "__main__":
    unittest.main()
