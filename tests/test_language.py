"""The rules of the language that can be read off the files, and the places of the interface."""

import ast
import builtins
import os
import re
import unittest

PACKAGE = os.path.join(os.path.dirname(os.path.dirname(os.path.abspath(__file__))), "scripttrees")

INTERFACE = {
    "names.py": "is_name is_word is_path folder_of last_name beginnings is_below",
    "trees.py": "is_tree kind_at words_at names_in paths_of count_entries is_part",
    "calls.py": "is_call paths_in result_of tree_after",
    "scripts.py": "is_script script_paths run succeeds trees_along",
    "texts.py": "script_text read_script tree_lines read_tree",
    "facts.py": "is_fact are_facts holds are_possible tree_for follows",
    "standing.py": "standing_trees stands_for",
    "judging.py": "outcomes judgement tree_with outcomes_under is_enough",
    "conditions.py": "needs are_needs_enough promises",
    "alike.py": "same_effect parting_tree same_if_good do_commute",
    "needless.py": "needless_calls shortest_part can_swap",
    "undoing.py": "is_undone reverse can_undo keeps_words",
    "together.py": "run_both are_orderly disorder fewest_joins",
    "tables.py": "is_table shown table_of number_at free_number",
    "acting.py": "may act act_all tables_along grant needed_rights",
    "disks.py": "is_disk blocks_of choose count_free stored loaded count_pieces",
    "writing.py": "writes_for apply_writes flushed brought_to",
    "crashes.py": "are_dealings found_disks found_tables can_break",
    "cutoff.py": "dealings_of trees_found can_lose fewest_flushes",
    "looker.py": "faults is_sound",
    "mender.py": "mended loss",
    "images.py": "image read_image usage",
    "quotas.py": "are_limits used over act_within least_limits",
}

# The methods of classes, each of which has to stand in the class itself.
CLASSES = {
    "album.py": ("Album", "__init__ table taken free change take drop snapshot alone go_back"),
    "session.py": ("Session", "__init__ __eq__ __len__ table user log do grant become undo redo copy"),
}

ALLOWED_BUILTINS = set("""len range enumerate zip min max sum abs sorted reversed int str bool list tuple dict set
isinstance ord repr any all divmod ValueError KeyError super""".split())

ALLOWED_METHODS = set("""append clear copy count endswith extend find get index insert isalnum isalpha isdigit islower
isspace isupper items join keys ljust lower lstrip partition pop remove replace reverse rfind rjust rpartition rsplit
rstrip setdefault split splitlines startswith strip update upper values zfill bit_length isascii add discard
__init__""".split())

BARRED_NODES = (ast.AsyncFor, ast.AsyncFunctionDef, ast.AsyncWith, ast.Await, ast.Global, ast.Import, ast.Lambda,
                ast.With, ast.Yield, ast.YieldFrom, ast.Div, ast.Pow, ast.MatMult,
                ast.NamedExpr, ast.Starred, ast.Delete, ast.Assert, ast.AnnAssign, ast.JoinedStr)

BARRED_WORDS = re.compile(r"\b(type|typing|enum|Enum|Flag|Generic|Protocol|ABC|namedtuple|NamedTuple|TypedDict|"
                          r"register|mro|elements|open|input|law|vars|eval|exec|globals|locals|id|hash)\b")


def sources():
    found = {}
    for name in sorted(os.listdir(PACKAGE)):
        if name != "__pycache__":
            with open(os.path.join(PACKAGE, name), encoding="utf-8", newline="") as file:
                found[name] = file.read()
    return found


def bound_names(function):
    """Return the names of the parameters and the local variables of a function."""
    names = {argument.arg for argument in function.args.args}
    for node in ast.walk(function):
        if isinstance(node, ast.Name) and isinstance(node.ctx, ast.Store):
            names.add(node.id)
    return names


class Language(unittest.TestCase):
    def setUp(self):
        self.texts = sources()
        self.trees = {name: ast.parse(text) for name, text in self.texts.items()}

    def test_files_and_characters(self):
        for name, text in self.texts.items():
            self.assertRegex(name, "^[a-z_]+[.]py$")
            self.assertIsNone(re.search("[^ -~\n]", text), name)
            self.assertLess(text.count("\n"), 400, name)
            self.assertLessEqual(max(len(line) for line in text.split("\n")), 120, name)
            self.assertTrue(text.endswith("\n"), name)

    def test_statements_and_signs(self):
        for name, tree in self.trees.items():
            for node in ast.walk(tree):
                self.assertNotIsInstance(node, BARRED_NODES, (name, getattr(node, "lineno", 0)))
                if isinstance(node, (ast.FunctionDef, ast.ClassDef)):
                    self.assertEqual(node.decorator_list, [])
                    self.assertTrue(ast.get_docstring(node) or node.name in ("__init__", "look"), node.name)
                if isinstance(node, ast.FunctionDef):
                    self.assertLessEqual(node.end_lineno - node.lineno + 1, 40, node.name)
                if isinstance(node, ast.Constant) and not isinstance(node.value, str):
                    self.assertIn(type(node.value), (int, bool, type(None)))

    def test_only_own_errors_are_caught(self):
        own = {node.name for node in self.trees["errors.py"].body if isinstance(node, ast.ClassDef)}
        for name, tree in self.trees.items():
            for node in ast.walk(tree):
                if isinstance(node, ast.Try):
                    self.assertEqual((node.finalbody, node.orelse), ([], []), name)
                    for handler in node.handlers:
                        self.assertIsNone(handler.name)
                        found = {part.id for part in ast.walk(handler.type) if isinstance(part, ast.Name)}
                        self.assertTrue(found and found <= own, (name, found))

    def test_no_generators_where_lists_are_asked_for(self):
        for name, tree in self.trees.items():
            for node in ast.walk(tree):
                if isinstance(node, ast.Call) and isinstance(node.func, ast.Name):
                    if node.func.id in ("any", "all", "min", "max", "sum", "sorted"):
                        for argument in node.args:
                            self.assertNotIsInstance(argument, ast.GeneratorExp, (name, node.lineno))

    def test_imports(self):
        reached = {}
        for name, tree in self.trees.items():
            reached[name] = set()
            for node in ast.walk(tree):
                if not isinstance(node, ast.ImportFrom):
                    continue
                self.assertIn(node, tree.body)
                folder, home = node.module.split(".")
                self.assertEqual((folder, node.level), ("scripttrees", 0))
                reached[name].add(home + ".py")
                own = {part.name for part in self.trees[home + ".py"].body
                       if isinstance(part, (ast.FunctionDef, ast.ClassDef))}
                own.update(target.id for part in self.trees[home + ".py"].body if isinstance(part, ast.Assign)
                           for target in part.targets)
                for alias in node.names:
                    self.assertIn(alias.name, own)
                    self.assertIsNone(alias.asname)
        left = dict(reached)
        while left:
            ready = [name for name in left if not left[name] & set(left)]
            self.assertTrue(ready, "files import from each other")
            for name in ready:
                del left[name]

    def test_names(self):
        known = set(dir(builtins))
        methods = {node.name for tree in self.trees.values() for part in ast.walk(tree)
                   if isinstance(part, ast.ClassDef) for node in part.body if isinstance(node, ast.FunctionDef)}
        for name, tree in self.trees.items():
            imported = {alias.name for node in tree.body if isinstance(node, ast.ImportFrom) for alias in node.names}
            classes = {node.name for node in tree.body if isinstance(node, ast.ClassDef)}
            for node in ast.walk(tree):
                if isinstance(node, ast.FunctionDef):
                    self.assertFalse(bound_names(node) & (known | imported | classes), (name, node.name))
                if isinstance(node, ast.Name) and node.id in known:
                    self.assertIn(node.id, ALLOWED_BUILTINS, name)
                if isinstance(node, ast.Call) and isinstance(node.func, ast.Attribute):
                    self.assertIn(node.func.attr, ALLOWED_METHODS | methods, name)
                if isinstance(node, (ast.Name, ast.arg, ast.Attribute)):
                    word = getattr(node, "id", None) or getattr(node, "arg", None) or getattr(node, "attr", None)
                    self.assertIsNone(BARRED_WORDS.fullmatch(word), (name, word))
                if isinstance(node, ast.Constant) and isinstance(node.value, str):
                    self.assertNotIn("%", node.value)

    def test_module_level(self):
        for name, tree in self.trees.items():
            names = []
            for node in tree.body:
                if isinstance(node, ast.Expr):
                    self.assertIsInstance(node.value.value, str)
                elif isinstance(node, ast.Assign):
                    self.assertEqual(len(node.targets), 1)
                    names.append(node.targets[0].id)
                elif isinstance(node, ast.ImportFrom):
                    names.extend(alias.name for alias in node.names)
                else:
                    self.assertIsInstance(node, (ast.FunctionDef, ast.ClassDef))
                    names.append(node.name)
            self.assertEqual(len(names), len(set(names)), name)

    def test_interface(self):
        for name, words in INTERFACE.items():
            own = [node.name for node in self.trees[name].body if isinstance(node, ast.FunctionDef)]
            for word in words.split():
                self.assertIn(word, own, name)
        for name, (title, words) in CLASSES.items():
            own = [part for part in self.trees[name].body if isinstance(part, ast.ClassDef) and part.name == title]
            self.assertEqual(len(own), 1)
            methods = [node.name for node in own[0].body if isinstance(node, ast.FunctionDef)]
            self.assertEqual(len(methods), len(set(methods)))
            for word in words.split():
                self.assertIn(word, methods, name)

    def test_no_name_is_a_method_and_an_attribute(self):
        methods, attributes = set(), set()
        for tree in self.trees.values():
            for part in tree.body:
                if isinstance(part, ast.ClassDef):
                    methods |= {node.name for node in part.body if isinstance(node, ast.FunctionDef)}
            attributes |= {node.attr for node in ast.walk(tree)
                           if isinstance(node, ast.Attribute) and isinstance(node.ctx, ast.Store)}
        self.assertEqual(methods & attributes, set())
