"""The rules of the language subset that can be asked of the files of the package."""

import ast
import builtins
import os
import re
import unittest
import warnings

ROOT = os.path.dirname(os.path.dirname(os.path.abspath(__file__)))
FOLDER = os.path.join(ROOT, "stopanywhere")
INTERFACE = {
    "errors": "StopError",
    "words": "is_name KEPT sort_of",
    "trees": "is_kind is_expression is_block is_function is_declaration is_unit statements calls_in depth",
    "texts": "words_of read_unit read_expression read_block can_follow unit_text expression_text block_text "
             "places_of point_at",
    "alike": "is_like with_names",
    "names": "in_sight does_end faults order_of users_of",
    "kinds": "ties wants clash is_clash kinds_of kind_at as_told is_sound",
    "faces": "face_of is_face all_faces",
    "plain": "Program Plain told_run narrowed fits",
    "forms": "Scope scope_of_codes is_named is_placed",
    "ways": "kinds_at way_without tidy are_alike stand_ins without_stand_ins",
    "lowering": "scope_of named_code named_codes",
    "heaps": "made pictures reached moved",
    "runner": "Codes",
    "walks": "walk",
    "terms": "told_number told_same",
    "roads": "ahead_of way_past readers ring_of",
    "stories": "story",
    "steps": "stepped is_step steps_of refusal",
    "passes": "rewritten settled lost_in lean",
    "wanted": "wanted way_to alive carried",
    "colours": "most colours is_colouring",
    "spills": "least worth slots spans_of prices_of",
    "moves": "moves openings",
    "placing": "placing is_placing found lost_way placed placed_code",
    "papers": "is_paper",
    "judge": "judge judge_all parted",
    "tables": "roots_at told_at table",
    "collecting": "roots_of reached_of collected alike_states",
    "sessions": "Session led",
    "objects": "object_of is_object linked is_bundle calls_of kept",
    "again": "build stale",
    "bits": "count_bits number_bits read_count read_number is_instruction bits_of read_bits instruction_at",
    "layouts": "plain_orders leaps distance size is_layout meet least_layout reasons is_reasons",
    "images": "image_of image is_image read_image spot_at spot_behind address_of",
    "chips": "chip_begin chip_step chip_run runner_state",
    "desk": "Desk",
}
BUILTINS = set(
    "len range enumerate zip min max sum abs sorted reversed int str bool list tuple dict set isinstance ord repr any "
    "all divmod iter next map ValueError KeyError Exception".split()
)
METHODS = set(
    "append clear copy count endswith extend find get index insert isalnum isalpha isdigit islower isspace isupper "
    "items join keys ljust lower lstrip partition pop remove replace reverse rfind rjust rpartition rsplit rstrip "
    "setdefault split splitlines startswith strip update upper values zfill bit_length isascii add discard".split()
)
BANNED = set("register mro elements open input law version_info with_traceback add_note".split())
BANNED_WORDS = set(
    "type typing enum Enum Flag Generic Protocol ABC namedtuple NamedTuple TypedDict abstractmethod".split()
)
NODES_BANNED = (
    ast.Global, ast.AsyncFunctionDef, ast.Await, ast.Yield, ast.YieldFrom, ast.GeneratorExp, ast.Div,
)


def files():
    return sorted(name[:-3] for name in os.listdir(FOLDER) if name.endswith(".py"))


def source_of(name):
    with open(os.path.join(FOLDER, name + ".py"), encoding="utf-8") as file:
        return file.read()


def tree_of(name):
    return ast.parse(source_of(name))


def functions_in(tree):
    return [node for node in ast.walk(tree) if isinstance(node, ast.FunctionDef)]


def names_bound(node):
    """The names of the parameters and local variables of a function, comprehensions included."""
    found = set()
    for inner in ast.walk(node):
        if isinstance(inner, ast.arg):
            found.add(inner.arg)
        elif isinstance(inner, ast.Name) and isinstance(inner.ctx, ast.Store):
            found.add(inner.id)
        elif isinstance(inner, ast.ExceptHandler) and inner.name:
            found.add(inner.name)
    return found


class Rules(unittest.TestCase):
    def each(self):
        return [(name, tree_of(name)) for name in files()]

    def test_folder_has_source_files_alone(self):
        for name in os.listdir(FOLDER):
            self.assertTrue(name == "__pycache__" or re.fullmatch(r"[a-z_]+\.py", name), name)

    def test_characters_and_sizes(self):
        for name in files():
            text = source_of(name)
            lines = text.split("\n")
            self.assertLessEqual(len(lines), 399, name)
            for line in lines:
                self.assertLessEqual(len(line), 120, (name, line))
                self.assertTrue(all(" " <= sign <= "~" for sign in line), (name, line))
            for node in functions_in(ast.parse(text)):
                self.assertLessEqual(node.end_lineno - node.lineno + 1, 40, (name, node.name))

    def test_no_warnings(self):
        for name in files():
            with warnings.catch_warnings():
                warnings.simplefilter("error")
                compile(source_of(name), name, "exec")

    def test_module_level(self):
        for name, tree in self.each():
            for node in tree.body:
                if isinstance(node, ast.Assign):
                    self.assertEqual(len(node.targets), 1)
                    self.assertIsInstance(node.targets[0], ast.Name)
                    for inner in ast.walk(node.value):
                        self.assertNotIsInstance(inner, (ast.Call, ast.ListComp, ast.BinOp), name)
                else:
                    self.assertTrue(
                        isinstance(node, (ast.ImportFrom, ast.FunctionDef, ast.ClassDef))
                        or (isinstance(node, ast.Expr) and isinstance(node.value, ast.Constant)),
                        (name, node.lineno),
                    )
            self.assertTrue(ast.get_docstring(tree), name)
        self.assertEqual(len(tree_of("__init__").body), 1)

    def test_nothing_barred(self):
        for name, tree in self.each():
            for node in ast.walk(tree):
                where = (name, getattr(node, "lineno", None))
                self.assertNotIsInstance(node, NODES_BANNED, where)
                if isinstance(node, (ast.FunctionDef, ast.ClassDef)):
                    self.assertEqual(node.decorator_list, [], where)
                if isinstance(node, ast.Constant):
                    self.assertNotIsInstance(node.value, (float, bytes), where)
                    if isinstance(node.value, str):
                        self.assertNotIn("%", node.value, where)
                if isinstance(node, ast.Attribute):
                    self.assertNotIn(node.attr, BANNED, where)
                if isinstance(node, ast.Compare):
                    for sign, other in zip(node.ops, node.comparators):
                        if isinstance(sign, (ast.Is, ast.IsNot)):
                            self.assertIsInstance(other, ast.Constant, where)
                if isinstance(node, ast.Name):
                    self.assertNotIn(node.id, BANNED | BANNED_WORDS, where)
                    self.assertFalse(node.id.startswith("__"), where)
                    if node.id == "_":
                        self.assertIsInstance(node.ctx, ast.Store, where)
                if isinstance(node, ast.Raise) and node.exc is not None:
                    self.assertIsInstance(node.exc, ast.Call, where)

    def test_names_of_builtins_and_imports_are_bound_once(self):
        for name, tree in self.each():
            imported = {a.name for node in tree.body if isinstance(node, ast.ImportFrom) for a in node.names}
            classes = {node.name for node in ast.walk(tree) if isinstance(node, ast.ClassDef)}
            top = [node.name for node in tree.body if isinstance(node, (ast.FunctionDef, ast.ClassDef))]
            top += [node.targets[0].id for node in tree.body if isinstance(node, ast.Assign)]
            self.assertEqual(len(top + list(imported)), len(set(top) | imported), name)
            for bound in set(top):
                self.assertFalse(hasattr(builtins, bound), (name, bound))
            for function in functions_in(tree):
                for bound in names_bound(function):
                    self.assertFalse(hasattr(builtins, bound) and bound != "_", (name, function.name, bound))
                    self.assertNotIn(bound, imported | classes, (name, function.name))
            used = {node.id for node in ast.walk(tree) if isinstance(node, ast.Name)}
            self.assertEqual(imported - used, set(), name)

    def test_builtins_and_methods_used(self):
        own = {node.name for name in files() for node in functions_in(tree_of(name))}
        for name, tree in self.each():
            for node in ast.walk(tree):
                where = (name, getattr(node, "lineno", None))
                if isinstance(node, ast.Name) and hasattr(builtins, node.id):
                    self.assertIn(node.id, BUILTINS, where)
                if isinstance(node, ast.Call) and isinstance(node.func, ast.Attribute):
                    self.assertIn(node.func.attr, METHODS | own, where)

    def test_sets_stand_where_they_may(self):
        for name, tree in self.each():
            above = {inner: node for node in ast.walk(tree) for inner in ast.iter_child_nodes(node)}
            for node in ast.walk(tree):
                self.assertNotIsInstance(node, (ast.Set, ast.SetComp), name)
                if isinstance(node, ast.Call) and isinstance(node.func, ast.Name) and node.func.id == "set":
                    around = above[node]
                    is_kept = isinstance(around, ast.Assign) and isinstance(around.targets[0], ast.Name)
                    is_sorted = isinstance(around, ast.Call) and around.func.id in ("sorted", "len")
                    self.assertTrue(is_kept or is_sorted, (name, node.lineno))

    def test_views_are_iterated_at_once(self):
        for name, tree in self.each():
            above = {inner: node for node in ast.walk(tree) for inner in ast.iter_child_nodes(node)}
            for node in ast.walk(tree):
                if not isinstance(node, ast.Call):
                    continue
                called = node.func.attr if isinstance(node.func, ast.Attribute) else getattr(node.func, "id", "")
                if called in ("items", "keys", "values", "zip", "enumerate", "range", "reversed"):
                    around = above[node]
                    is_listed = isinstance(around, ast.Call) and around.func.id in (
                        "list", "tuple", "dict", "sorted", "enumerate", "zip", "any", "all", "sum", "min", "max"
                    )
                    is_loop = isinstance(around, (ast.For, ast.comprehension)) and around.iter is node
                    is_turned = called == "range" and isinstance(around, ast.Call) and getattr(around.func, "id", "") == "reversed"
                    self.assertTrue(is_listed or is_loop or is_turned, (name, node.lineno))

    def test_imports_go_up_alone(self):
        order = {}
        for name in files():
            wanted = []
            for node in ast.walk(tree_of(name)):
                self.assertNotIsInstance(node, ast.Import, name)
                if isinstance(node, ast.ImportFrom):
                    package, _, module = node.module.partition(".")
                    self.assertEqual(package, "stopanywhere", name)
                    wanted.append(module)
            order[name] = wanted
        listed = list(INTERFACE)

        def come_to(name):
            found = set(order[name])
            for other in order[name]:
                found |= come_to(other)
            return found

        for name in order:
            self.assertNotIn(name, come_to(name))
        for at, name in enumerate(listed):
            later = come_to(name) & set(listed[at:])
            self.assertEqual(later, set(), name)

    def test_imports_name_the_file_that_defines(self):
        for name, tree in self.each():
            for node in tree.body:
                if isinstance(node, ast.ImportFrom):
                    other = tree_of(node.module.partition(".")[2])
                    found = {inner.name for inner in other.body if isinstance(inner, (ast.FunctionDef, ast.ClassDef))}
                    found |= {inner.targets[0].id for inner in other.body if isinstance(inner, ast.Assign)}
                    self.assertEqual({alias.name for alias in node.names} - found, set(), (name, node.module))

    def test_tables_are_only_read(self):
        for name, tree in self.each():
            tables = {
                node.targets[0].id for node in tree.body
                if isinstance(node, ast.Assign) and isinstance(node.value, (ast.Dict, ast.List))
            }
            above = {inner: node for node in ast.walk(tree) for inner in ast.iter_child_nodes(node)}
            for node in ast.walk(tree):
                if isinstance(node, ast.Name) and node.id in tables and isinstance(node.ctx, ast.Load):
                    around = above[node]
                    is_read = isinstance(around, ast.Subscript) and around.value is node
                    is_read = is_read or isinstance(around, ast.Compare) or isinstance(around, (ast.For, ast.comprehension))
                    is_asked = isinstance(around, ast.Attribute) and around.attr in ("get", "items", "keys", "values")
                    self.assertTrue(is_read or is_asked, (name, node.lineno))

    def test_interface_is_defined_where_it_is_listed(self):
        for name, words in INTERFACE.items():
            tree = tree_of(name)
            found = {node.name for node in tree.body if isinstance(node, (ast.FunctionDef, ast.ClassDef))}
            found |= {node.targets[0].id for node in tree.body if isinstance(node, ast.Assign)}
            self.assertEqual(set(words.split()) - found, set(), name)

    def test_each_name_is_used_or_promised(self):
        promised = {word for words in INTERFACE.values() for word in words.split()}
        used = set()
        for _, tree in self.each():
            for node in ast.walk(tree):
                if isinstance(node, ast.Name) and isinstance(node.ctx, ast.Load):
                    used.add(node.id)
                elif isinstance(node, ast.Attribute):
                    used.add(node.attr)
        for name, tree in self.each():
            for node in tree.body:
                told = [node.name] if isinstance(node, (ast.FunctionDef, ast.ClassDef)) else []
                if isinstance(node, ast.Assign):
                    told = [node.targets[0].id]
                self.assertEqual(set(told) - used - promised, set() if name != "errors" else set(told) - used - promised, name)

    def test_stars_of_calls_stand_before_names(self):
        for name, tree in self.each():
            for node in ast.walk(tree):
                for part in node.args if isinstance(node, ast.Call) else []:
                    if isinstance(part, ast.Starred):
                        self.assertIsInstance(part.value, (ast.Name, ast.Attribute), (name, node.lineno))

    def test_methods_are_called_where_they_stand(self):
        methods, stored = set(), set()
        for _, tree in self.each():
            for node in ast.walk(tree):
                if isinstance(node, ast.ClassDef):
                    methods |= {inner.name for inner in node.body if isinstance(inner, ast.FunctionDef)}
                elif isinstance(node, ast.Attribute) and isinstance(node.ctx, ast.Store):
                    stored.add(node.attr)
        for name, tree in self.each():
            called = {node.func for node in ast.walk(tree) if isinstance(node, ast.Call)}
            for node in ast.walk(tree):
                if isinstance(node, ast.Attribute) and isinstance(node.ctx, ast.Load) and node not in called:
                    self.assertNotIn(node.attr, METHODS | (methods - stored), (name, node.lineno))

    def test_methods_and_attributes_are_apart(self):
        for name, tree in self.each():
            for node in ast.walk(tree):
                if isinstance(node, ast.ClassDef):
                    methods = [inner.name for inner in node.body if isinstance(inner, ast.FunctionDef)]
                    self.assertEqual(len(methods), len(set(methods)))
                    stored = {
                        inner.attr for inner in ast.walk(node)
                        if isinstance(inner, ast.Attribute) and isinstance(inner.ctx, ast.Store)
                    }
                    self.assertEqual(stored & set(methods), set(), (name, node.name))


if __name__ == "__main__":
    unittest.main()
