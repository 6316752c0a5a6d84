"""The package's files, held against what of ../shared/LANGUAGE.md can be seen in the code."""

import ast
import builtins
import importlib
import inspect
import pathlib
import re
import unittest

PACKAGE = pathlib.Path(__file__).resolve().parent.parent / "paperreader"
BUILTINS = set(
    "len range enumerate zip min max sum abs sorted reversed int str bool list tuple dict set frozenset isinstance ord"
    " repr any all divmod Exception ValueError TypeError KeyError IndexError LookupError ZeroDivisionError".split()
)
METHODS = set(
    "append clear copy count endswith extend find get index insert isalnum isalpha isdigit islower isspace isupper"
    " items join keys ljust lower lstrip partition pop remove replace reverse rfind rjust rpartition rsplit rstrip"
    " setdefault split splitlines startswith strip update upper values zfill bit_length add discard".split()
)
LIBRARY = {"heapq": {"heappush", "heappop", "heapify"}, "math": {"gcd", "comb"}, "itertools": {"product"}}
BARRED = re.compile(
    r"\b(register|mro|elements|open|input|law|version_info|with_traceback|add_note|attrgetter|breakpoint|builtins"
    r"|compile|copyright|credits|delattr|dir|eval|exec|exit|gc|globals|help|id|importlib|license|locals|methodcaller"
    r"|os|quit|super|type|vars|sys|typing|enum|Enum|Flag|Generic|Protocol|ABC|namedtuple|abstractmethod|_wall)\b"
)
STATEMENTS = (
    ast.Assign, ast.AugAssign, ast.If, ast.While, ast.For, ast.Return, ast.Break, ast.Continue, ast.Pass, ast.Raise,
    ast.Assert, ast.Delete, ast.Try, ast.Expr, ast.FunctionDef, ast.ClassDef, ast.ImportFrom,
)
INTERFACE = {
    "names": "is_name(thing) is_row(thing)",
    "grammars": "Grammar(rules) Grammar.rules_of(part)",
    "grammartexts": "written(grammar) read(text)",
    "looking": "fruitful(grammar) reached(grammar) empties(grammar) rings(grammar) barren(grammar,parts)"
               " trimmed(grammar)",
    "trees": "is_tree(grammar,thing) root_of(grammar,tree) row_of(tree) rules_in(tree) steps_of(tree)"
             " tree_by(grammar,steps) is_ahead(one,other)",
    "treetexts": "tree_text(tree) read_tree(grammar,text)",
    "charts": "is_closed(grammar,row,chart) refuses(grammar,row,chart) least_chart(grammar,row)",
    "readings": "reading(grammar,row)",
    "counting": "how_many(grammar,row) pumped(grammar,row) pump(grammar,tree,outer,inner,times)"
                " first_trees(grammar,row,most)",
    "coming": "is_beginning(grammar,row) goes_on(grammar,row) wrong_at(grammar,row) rest_of(grammar,row)",
    "tables": "Table(states)",
    "readers": "run(grammar,table,row)",
    "holding": "holds(grammar,table)",
    "full": "full_table(grammar)",
    "short": "short_table(grammar)",
    "changes": "Change.there(tree) Change.back(tree) Change.then(other)",
    "moves": "trimming(grammar) twos(grammar) unfolding(grammar,k,at) turning(grammar,part)",
    "plainer": "filled(grammar) straight(grammar)",
    "leftless": "leftless(grammar) worded(grammar)",
    "machines": "Machine(many,steps,ends) Machine.takes(row)",
    "crossing": "ways(grammar,machine) are_closed(grammar,machine,ways) show_none(grammar,machine,ways)"
                " meet(grammar,machine)",
    "numbering": "count_trees(grammar,part,rules) nth_tree(grammar,part,rules,n) place_of(grammar,tree)",
    "firsts": "first_tree(grammar,part) endless(grammar)",
    "costs": "cost_between(row,other)",
    "mending": "mended(grammar,row)",
    "tolls": "is_fair(grammar,row,toll) toll_of(grammar,row)",
    "kept": "Kept(grammar,row) Kept.now() Kept.chart() Kept.reading_now() Kept.put(at,word) Kept.cut(at)"
            " Kept.change(at,word) Kept.back() Kept.kept()",
    "unlike": "parted(one,other,most) twofold(grammar,most)",
    "desk": "answers(text)",
}
# The interface itself calls an argument of two functions like a third one.
SHARED = {"crossing": {"ways"}}


def modules():
    """The name, the text and the syntax tree of each file."""
    for path in sorted(PACKAGE.glob("*.py")):
        text = path.read_text(encoding="utf-8")
        yield path.stem, text, ast.parse(text)


def functions_in(tree):
    """All functions and methods in a file."""
    return [node for node in ast.walk(tree) if isinstance(node, ast.FunctionDef)]


def names_bound(tree):
    """The functions, classes, imports and values of a file."""
    names = []
    for node in tree.body:
        if isinstance(node, ast.ImportFrom):
            names += [alias.name for alias in node.names]
        elif isinstance(node, (ast.FunctionDef, ast.ClassDef)):
            names.append(node.name)
        elif isinstance(node, ast.Assign):
            names += [target.id for target in node.targets]
    return names


class Files(unittest.TestCase):
    def test_nothing_but_plain_files(self):
        for path in PACKAGE.iterdir():
            if path.name != "__pycache__":
                self.assertRegex(path.name, r"^[a-z_][a-z0-9_]*\.py$")
        self.assertEqual((PACKAGE / "__init__.py").read_text(), "")

    def test_signs_and_sizes(self):
        for name, text, tree in modules():
            self.assertTrue(all(" " <= sign <= "~" or sign == "\n" for sign in text), name)
            rows = text.split("\n")
            self.assertLessEqual(len(rows), 399, name)
            self.assertLessEqual(max(len(row) for row in rows), 120, name)
            for node in functions_in(tree):
                self.assertLessEqual(node.end_lineno - node.lineno + 1, 40, f"{name}.{node.name}")

    def test_barred_words(self):
        for name, text, tree in modules():
            for node in ast.walk(tree):
                if isinstance(node, (ast.Module, ast.ClassDef, ast.FunctionDef)) and ast.get_docstring(node):
                    node.body[0].value.value = ""
            self.assertIsNone(BARRED.search(ast.unparse(tree)), name)
            self.assertNotIn("_wall", text)

    def test_strings(self):
        for name, _, tree in modules():
            for node in ast.walk(tree):
                if isinstance(node, ast.Constant) and isinstance(node.value, str):
                    self.assertNotIn("%", node.value, name)
                    self.assertNotIn("__", node.value, name)
                    self.assertFalse(node.value.endswith("._"), name)
                self.assertFalse(isinstance(node, ast.Constant) and isinstance(node.value, float), name)


class Imports(unittest.TestCase):
    def test_from_the_very_file_and_without_circles(self):
        defined = {}
        uses = {}
        for name, _, tree in modules():
            own = [node for node in tree.body if not isinstance(node, ast.ImportFrom)]
            defined[name] = names_bound(ast.Module(own, []))
            uses[name] = [node for node in tree.body if isinstance(node, ast.ImportFrom)]
        beneath = {}
        for name, nodes in uses.items():
            beneath[name] = set()
            for node in nodes:
                self.assertEqual(node.level, 0)
                self.assertTrue(all(alias.asname is None for alias in node.names))
                names = {alias.name for alias in node.names}
                if node.module in LIBRARY:
                    self.assertTrue(names <= LIBRARY[node.module], name)
                    continue
                package, _, module = node.module.partition(".")
                self.assertEqual(package, "paperreader")
                self.assertTrue(names <= set(defined[module]), f"{name} imports {names} of {module}")
                beneath[name].add(module)
        for _ in beneath:
            beneath = {name: ms.union(*[beneath[m] for m in ms]) for name, ms in beneath.items()}
        for name, below in beneath.items():
            self.assertNotIn(name, below)

    def test_each_import_is_used(self):
        for name, _, tree in modules():
            used = {node.id for node in ast.walk(tree) if isinstance(node, ast.Name)}
            for node in tree.body:
                if isinstance(node, ast.ImportFrom):
                    for alias in node.names:
                        self.assertIn(alias.name, used, name)


class Code(unittest.TestCase):
    def test_statements(self):
        for name, _, tree in modules():
            for node in ast.walk(tree):
                if isinstance(node, ast.stmt):
                    self.assertIsInstance(node, STATEMENTS, f"{name}:{getattr(node, 'lineno', 0)}")
                self.assertNotIsInstance(node, (ast.Div, ast.Yield, ast.YieldFrom, ast.Await, ast.NamedExpr))
                if isinstance(node, (ast.FunctionDef, ast.ClassDef)):
                    self.assertEqual(node.decorator_list, [])
            for node in tree.body:
                self.assertIsInstance(
                    node, (ast.Expr, ast.ImportFrom, ast.FunctionDef, ast.ClassDef, ast.Assign), name
                )

    def test_one_binding_for_each_name(self):
        for name, _, tree in modules():
            bound = names_bound(tree)
            self.assertEqual(len(bound), len(set(bound)), name)
            self.assertEqual(set(bound) & set(dir(builtins)), set(), name)

    def test_local_names(self):
        for name, _, tree in modules():
            barred = (set(names_bound(tree)) - SHARED.get(name, set())) | set(dir(builtins))
            for node in functions_in(tree):
                local = {arg.arg for arg in node.args.args}
                for inner in ast.walk(node):
                    if isinstance(inner, ast.Name) and isinstance(inner.ctx, ast.Store):
                        local.add(inner.id)
                self.assertEqual(local & barred, set(), f"{name}.{node.name}")

    def test_builtins(self):
        for name, _, tree in modules():
            for node in ast.walk(tree):
                if isinstance(node, ast.Name) and node.id in dir(builtins):
                    self.assertIn(node.id, BUILTINS, f"{name}:{node.lineno}")

    def test_methods(self):
        own = set()
        for _, _, tree in modules():
            for node in ast.walk(tree):
                if isinstance(node, ast.ClassDef):
                    own |= {inner.name for inner in node.body if isinstance(inner, ast.FunctionDef)}
        free = set()
        for kind in (str, int, list, dict, set, bytes):
            free |= set(dir(kind))
        self.assertEqual({method for method in own if method in free}, {"__init__"})
        for name, _, tree in modules():
            for node in ast.walk(tree):
                if isinstance(node, ast.Call) and isinstance(node.func, ast.Attribute):
                    self.assertIn(node.func.attr, METHODS | own, f"{name}:{node.lineno}")

    def test_attributes_are_assigned(self):
        assigned, methods, read = set(), set(), set()
        for _, _, tree in modules():
            for node in ast.walk(tree):
                if isinstance(node, ast.ClassDef):
                    methods |= {inner.name for inner in node.body if isinstance(inner, ast.FunctionDef)}
                if isinstance(node, ast.Attribute):
                    (assigned if isinstance(node.ctx, ast.Store) else read).add(node.attr)
        self.assertEqual(assigned & methods, set())
        self.assertEqual(assigned & METHODS, set())
        self.assertEqual(read - assigned - methods - METHODS, set())

    def test_kept_iterators(self):
        kept = {"zip", "enumerate", "reversed", "map"}
        for name, _, tree in modules():
            for node in ast.walk(tree):
                value = node.value if isinstance(node, (ast.Assign, ast.Return)) else None
                calls = [value] if value is not None else []
                if isinstance(node, ast.Call) and isinstance(node.func, ast.Attribute):
                    calls += node.args
                for call in calls:
                    if isinstance(call, ast.Call) and isinstance(call.func, ast.Name):
                        self.assertNotIn(call.func.id, kept, f"{name}:{node.lineno}")


class Interface(unittest.TestCase):
    def test_each_is_defined_in_its_file(self):
        for module, listed in INTERFACE.items():
            loaded = importlib.import_module(f"paperreader.{module}")
            for told in listed.split():
                path, _, arguments = told.rstrip(")").partition("(")
                first, _, method = path.partition(".")
                thing = getattr(loaded, first)
                self.assertEqual(thing.__module__, f"paperreader.{module}")
                if inspect.isclass(thing):
                    thing = vars(thing)[method or "__init__"]
                    arguments = "self," + arguments
                self.assertEqual(list(inspect.signature(thing).parameters), arguments.rstrip(",").split(","), told)

    def test_the_package_binds_nothing(self):
        tree = ast.parse((PACKAGE / "__init__.py").read_text())
        self.assertEqual(tree.body, [])


if __name__ == "__main__":
    unittest.main()
