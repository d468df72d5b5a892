"""What can be seen from the code: the interface, and the plainest rules of the language subset."""

import ast
import builtins
import pathlib
import re
import unittest

PACKAGE = pathlib.Path(__file__).resolve().parent.parent / "folderkin"
FILES = sorted(path for path in PACKAGE.rglob("*") if path.is_file() and "__pycache__" not in path.parts)
TREES = {path: ast.parse(path.read_text(encoding="utf-8")) for path in FILES}

BUILTINS = set(
    "len range enumerate zip min max sum abs sorted reversed int str bool list tuple dict set frozenset isinstance "
    "ord repr any all divmod pow super ValueError KeyError ZeroDivisionError NotImplementedError".split())
METHODS = set(
    "append clear copy count endswith extend find get index insert isalnum isalpha isdigit islower isspace isupper "
    "items join keys ljust lower lstrip partition pop remove replace reverse rfind rjust rpartition rsplit rstrip "
    "setdefault split splitlines startswith strip update upper values zfill bit_length".split())
SPECIAL = {"__init__", "__eq__", "__repr__", "__str__", "__len__"}
STATEMENTS = (
    ast.Assign, ast.AugAssign, ast.If, ast.While, ast.For, ast.Return, ast.Break, ast.Continue, ast.Pass, ast.Raise,
    ast.Assert, ast.Delete, ast.Expr, ast.Try, ast.FunctionDef, ast.ClassDef, ast.ImportFrom)
BARRED = (
    ast.GeneratorExp, ast.Set, ast.SetComp, ast.Yield, ast.YieldFrom, ast.Await, ast.Global, ast.Pow, ast.Div,
    ast.AnnAssign, ast.NamedExpr)
WORDS = {"register", "mro", "elements", "open", "input", "law", "type", "eval", "exec", "dir", "id", "vars", "os"}
BEGINNINGS = re.compile(
    r"_(wall|pe_|dcw_|enum_|cm_|twin_re_|lay_|law_|stub_|sre|WallAttr)"
    r"|_(cold|tuplegetter|outside|record|written_out|member_names)[0-9_]*$")

INTERFACE = {
    "errors": ["PowerCut", "InvalidBlock", "InvalidPattern", "InvalidBytes", "InvalidScript", "FolderkinError"],
    "names": ["is_name", "is_user_name", "character_of"],
    "patterns": ["Pattern", "matches", "leaves_out", "format_patterns", "parse_patterns", "start_places",
                 "next_places"],
    "comparing": ["first_difference", "relation", "is_relation", "start_state", "next_state", "without_idle"],
    "content": ["block_number", "block_size", "is_block", "block_bytes", "split", "joined", "is_blocks"],
    "vectors": ["count_of", "compare", "join", "raised", "counts_of"],
    "entries": ["Entry", "edited", "alike", "key_of", "winner", "root_of", "copy_name", "copy_of"],
    "store": ["Store", "from_durable"],
    "coding": ["number_bytes", "name_bytes", "vector_bytes", "entry_bytes", "Reader"],
    "book": ["record_of", "intent_record", "peer_record", "upto_record", "read_log", "Book"],
    "scanning": ["agrees", "own_entry", "scan_name", "scan"],
    "letters": ["encode", "decode", "decode_all"],
    "lines": ["Lines"],
    "choosing": ["known", "wanted", "needed", "steps_for"],
    "pulling": ["near_places", "holds_block", "kept_blocks", "missing", "Pull"],
    "attic": ["Rule", "keep", "tidy", "let_go", "kept", "size_of"],
    "devices": ["Device"],
    "worlds": ["World", "are_alike"],
    "judging": ["fates", "judge_fates", "reasons", "judge_winner", "unlike"],
    "sealing": ["is_key", "seal_name", "seal_content", "seal_entry", "seal_letter", "open_name", "open_content",
                "open_entry", "open_letter", "Guest"],
    "scripts": ["Script", "format_script", "parse_script", "run_script"],
    "explaining": ["number_of", "made_by", "story", "judge_story", "carriers", "gone"],
    "counting": ["must_come", "share", "judge_share"],
    "status": ["state_of", "states", "lacking", "summary"],
    "oneway": ["Sender", "Receiver", "OneWayWorld"],
}
DEVICE = ["__init__", "leaves_out", "scan", "hear", "ask", "needed", "work"]
WORLD = ["__init__", "obey", "user_edits", "history"]
METHODS_OF = {
    ("patterns", "Pattern"): ["__init__", "__eq__"],
    ("entries", "Entry"): ["__init__", "__eq__"],
    ("store", "Store"): [
        "__init__", "set_budget", "done", "names", "read", "write", "remove", "rename", "temp_names", "temp",
        "append_temp", "cut_temp", "place", "attic", "attic_put", "attic_drop", "log", "new_log", "log_append",
        "new_log_append", "drop_new_log", "switch_log", "durable"],
    ("coding", "Reader"): ["__init__", "byte", "number", "device", "name", "vector", "block", "entry"],
    ("book", "Book"): [
        "__init__", "names", "own", "next_number", "put", "behind", "all_names", "intents", "intent", "intend",
        "peer_devices", "peer_names", "peer", "peer_entries", "put_peer", "upto", "put_upto", "needed", "compact"],
    ("lines", "Lines"): [
        "__init__", "is_joined", "cut", "join", "send", "waiting", "take", "drop", "double", "swap", "total",
        "reached_from", "connected"],
    ("pulling", "Pull"): ["__init__", "count", "is_whole", "advance", "give", "place"],
    ("attic", "Rule"): ["__init__", "__eq__"],
    ("devices", "Device"): DEVICE,
    ("worlds", "World"): WORLD,
    ("sealing", "Guest"): ["__init__", "ask", "hear", "work", "needed", "names", "read", "own"],
    ("scripts", "Script"): ["__init__", "__eq__"],
    ("oneway", "Sender"): DEVICE + ["differing", "override"],
    ("oneway", "Receiver"): DEVICE + ["strange", "revert"],
    ("oneway", "OneWayWorld"): WORLD,
}


def defined(body):
    return [node.name for node in body if isinstance(node, (ast.FunctionDef, ast.ClassDef))]


def nodes():
    for path, tree in TREES.items():
        for node in ast.walk(tree):
            yield path, node


class Interface(unittest.TestCase):
    def test_each_name_is_defined_in_its_file(self):
        for module, names in INTERFACE.items():
            found = defined(TREES[PACKAGE / f"{module}.py"].body)
            for name in names:
                self.assertIn(name, found, module)

    def test_each_method_is_defined_in_its_class(self):
        for (module, name), methods in METHODS_OF.items():
            body = TREES[PACKAGE / f"{module}.py"].body
            (found,) = [node for node in body if isinstance(node, ast.ClassDef) and node.name == name]
            for method in methods:
                self.assertIn(method, defined(found.body), name)


class Language(unittest.TestCase):
    def test_files(self):
        self.assertIn(PACKAGE / "__init__.py", FILES)
        for path in FILES:
            self.assertEqual((path.parent, path.suffix), (PACKAGE, ".py"))
            text = path.read_text(encoding="utf-8")
            self.assertTrue(all(char == "\n" or " " <= char <= "~" for char in text), path)
            self.assertLess(text.count("\n"), 400, path)
            self.assertLessEqual(max(len(line) for line in text.split("\n")), 120, path)
            self.assertNotIn("_wall", text)

    def test_imports(self):
        for path, node in nodes():
            self.assertNotIsInstance(node, ast.Import, path)
            if isinstance(node, ast.ImportFrom) and node.module == "math":
                self.assertEqual([(name.name, name.asname) for name in node.names], [("gcd", None)], path)
            elif isinstance(node, ast.ImportFrom):
                self.assertTrue(node.module.startswith("folderkin.") and node.level == 0, path)
                body = TREES[PACKAGE / (node.module.partition(".")[2] + ".py")].body
                found = defined(body) + [item.targets[0].id for item in body if isinstance(item, ast.Assign)]
                for name in node.names:
                    self.assertIn(name.name, found, path)
                    self.assertIsNone(name.asname, path)

    def test_module_level(self):
        for path, tree in TREES.items():
            names = []
            for node in tree.body:
                self.assertIsInstance(node, (ast.Expr, ast.ImportFrom, ast.FunctionDef, ast.ClassDef, ast.Assign))
                if isinstance(node, ast.Assign):
                    ast.literal_eval(node.value)
                    names.extend(target.id for target in node.targets)
                if isinstance(node, ast.ImportFrom):
                    names.extend(name.name for name in node.names)
            names.extend(defined(tree.body))
            self.assertEqual(len(names), len(set(names)), path)

    def test_statements_and_expressions(self):
        for path, node in nodes():
            if isinstance(node, ast.stmt):
                self.assertIsInstance(node, STATEMENTS, path)
            self.assertNotIsInstance(node, BARRED, path)
            if isinstance(node, (ast.FunctionDef, ast.ClassDef)):
                self.assertEqual(node.decorator_list, [], path)
            if isinstance(node, ast.FunctionDef):
                self.assertLessEqual(node.end_lineno - node.lineno + 1, 40, (path, node.name))
                self.assertTrue(not node.name.startswith("__") or node.name in SPECIAL, node.name)
            if isinstance(node, ast.Compare) and isinstance(node.ops[0], (ast.Is, ast.IsNot)):
                self.assertIn(ast.unparse(node.comparators[0]), ("None", "True", "False"), path)
            if isinstance(node, ast.Constant):
                self.assertNotIsInstance(node.value, (float, bytes, complex), path)
                self.assertNotIn("%", node.value if isinstance(node.value, str) else "", path)

    def test_names(self):
        for path, node in nodes():
            bound = []
            if isinstance(node, ast.Name):
                if isinstance(node.ctx, ast.Load) and hasattr(builtins, node.id):
                    self.assertIn(node.id, BUILTINS, path)
                if not isinstance(node.ctx, ast.Load):
                    bound.append(node.id)
            if isinstance(node, ast.arg):
                bound.append(node.arg)
            for name in bound:
                self.assertFalse(hasattr(builtins, name), (path, name))
                self.assertNotIn(name, WORDS, path)

    def test_no_name_of_an_import_or_a_class_is_bound_again(self):
        for path, tree in TREES.items():
            taken = [node.name for node in tree.body if isinstance(node, ast.ClassDef)]
            for node in tree.body:
                if isinstance(node, ast.ImportFrom):
                    taken.extend(name.name for name in node.names)
            for node in ast.walk(tree):
                if isinstance(node, ast.arg):
                    self.assertNotIn(node.arg, taken, path)
                if isinstance(node, ast.Name) and not isinstance(node.ctx, ast.Load):
                    self.assertNotIn(node.id, taken, path)

    def test_no_barred_beginnings(self):
        for path, node in nodes():
            for name in [getattr(node, part, None) for part in ("id", "attr", "name", "arg")]:
                if isinstance(name, str):
                    self.assertIsNone(BEGINNINGS.match(name), (path, name))

    def test_no_files_import_from_each_other(self):
        behind = {path.stem: set() for path in FILES}
        for path, node in nodes():
            if isinstance(node, ast.ImportFrom) and node.module != "math":
                behind[path.stem].add(node.module.partition(".")[2])
        while behind:
            free = [module for module in behind if not behind[module] & set(behind)]
            self.assertNotEqual(free, [], behind)
            for module in free:
                del behind[module]

    def test_no_method_is_read_off_a_class_by_its_name(self):
        # Some names are methods of one class and attributes of another one (Reader.number, Device.number).
        classes = {node.name for _, node in nodes() if isinstance(node, ast.ClassDef)}
        for path, node in nodes():
            if isinstance(node, ast.Attribute):
                self.assertNotIn(ast.unparse(node.value), classes, path)

    def test_super_stands_directly_in_methods_as_a_call(self):
        # Each super() is called at once, and not within a comprehension or a lambda.
        for path, node in nodes():
            inner = [part for part in ast.walk(node) if isinstance(part, ast.Name) and part.id == "super"]
            if isinstance(node, (ast.ListComp, ast.DictComp, ast.Lambda)):
                self.assertEqual(inner, [], path)
            if isinstance(node, ast.FunctionDef):
                told = [ast.unparse(part.func) for part in ast.walk(node) if isinstance(part, ast.Call)]
                self.assertEqual(len([name for name in told if name.startswith("super().")]), len(inner), path)

    def test_no_name_is_a_method_and_an_attribute_of_a_class(self):
        families = []
        for path, node in nodes():
            if isinstance(node, ast.ClassDef):
                stored = {
                    part.attr for part in ast.walk(node) if isinstance(part, ast.Attribute)
                    and isinstance(part.ctx, ast.Store) and ast.unparse(part.value) == "self"}
                self.assertEqual(stored & set(defined(node.body)), set(), (path, node.name))
                families.append((node.name, [base.id for base in node.bases], stored, set(defined(node.body))))
                self.assertEqual(len(defined(node.body)), len(set(defined(node.body))), (path, node.name))

        for name, bases, stored, methods in families:
            for above, _, stored_above, methods_above in families:
                if above in bases:
                    self.assertEqual((stored & methods_above, stored_above & methods), (set(), set()), name)

    def test_sets_are_not_iterated(self):
        for path, node in nodes():
            if isinstance(node, (ast.For, ast.comprehension)):
                self.assertNotRegex(ast.unparse(node.iter), r"^(set|frozenset)\(", path)
            if isinstance(node, ast.Call) and ast.unparse(node.func) in ("list", "tuple", "sum", "min", "max"):
                for argument in node.args:
                    self.assertNotRegex(ast.unparse(argument), r"^(set|frozenset)\(", path)

    def test_methods(self):
        own = {node.name for _, node in nodes() if isinstance(node, ast.FunctionDef)}
        for path, node in nodes():
            if isinstance(node, ast.Call) and isinstance(node.func, ast.Attribute):
                self.assertIn(node.func.attr, METHODS | own, path)
                if node.func.attr in METHODS:
                    self.assertEqual(node.keywords, [], path)
