"""That the package has the interface of the document, and keeps to the rules of the language that a test can see."""

import ast
import builtins
import pathlib
import unittest
import warnings

import exactbeats

FOLDER = pathlib.Path(exactbeats.__file__).parent
FILES = sorted(FOLDER.rglob("*.py"))
INTERFACE = {
    "cells": {"Cell": [], "copies": ["cell"], "is_arrivals": ["lines", "most", "thing"],
              "cells": ["lines", "most", "arrivals"]},
    "ideal": {"Ideal": ["push", "due", "let_go", "held", "ahead", "copy"],
              "ideal_run": ["lines", "most", "arrivals", "ranks"],
              "ideal_beats": ["lines", "most", "arrivals", "ranks"]},
    "fewer": {"against": ["most", "scheduler"], "first_beat": ["most"], "is_against": ["most", "thing"]},
    "ranks": {"Program": [], "Ranker": ["rank", "turned", "copy", "kept", "owned"]},
    "rows": {"is_standing": ["thing"], "copies_for": ["standing", "output"], "Rows": ["put", "take", "standing"]},
    "stable": {"is_matching": ["standing", "thing"], "is_stable": ["standing", "thing"],
               "blocks": ["standing", "matching"], "all_stable": ["standing"], "stable_matching": ["standing"],
               "stable_for_outputs": ["standing"], "matched": ["standing", "matching"]},
    "switch": {"Switch": ["come", "beats", "phases", "slack", "phase", "send", "beat", "standing", "stores",
                          "ideal_rows", "slacks", "phase_by", "copy"], "lifts": ["switch", "matching"]},
    "matchings": {"is_web": ["many", "thing"], "is_pairing": ["many", "web", "thing"],
                  "is_cover": ["many", "web", "thing"], "is_crowd": ["many", "web", "thing"], "degree": ["many", "web"],
                  "greatest": ["many", "web"], "needless": ["many", "web"], "needed": ["many", "web"],
                  "cover": ["many", "web"], "crowd": ["many", "web"]},
    "colours": {"is_colouring": ["many", "web", "colours", "thing"], "coloured": ["many", "web", "colours"],
                "with_tie": ["many", "web", "colours", "colouring", "pair"]},
    "planes": {"ways": ["sizes", "alive", "wishes"], "are_ways": ["sizes", "alive", "wishes", "thing"],
               "is_barred_laid": ["sizes", "many", "thing"], "barred_laid": ["sizes", "many"],
               "Laid": ["put", "moved", "put_by", "drop", "back", "lose", "laid", "alive", "free_for", "copy"]},
    "house": {"House": ["beat", "standing", "stores", "ideal_rows", "slacks", "whole", "counts", "turn", "lose", "back",
                        "broken", "ways", "book", "copy"]},
    "ranktexts": {"settings_text": ["programs"], "read_settings": ["text"]},
    "accounts": {"account_of": ["lines", "most", "programs", "arrivals"],
                 "is_right_account": ["lines", "most", "programs", "arrivals", "thing"]},
    "strangers": {"led": ["lines", "most", "programs", "arrivals", "phases", "stranger"], "asking": ["view"],
                  "greedy": ["view"]},
    "packets": {"cells_in": ["packet"], "is_load": ["thing"], "laid": ["lines", "most", "rows"],
                "Gatherer": ["comes", "lacking"], "delivered": ["lines", "most", "programs", "rows"]},
    "texts": {"arrivals_text": ["arrivals"], "read_arrivals": ["lines", "most", "text"]},
    "desk": {"Desk": ["tell"], "tale": ["n", "r", "most", "planes", "lines"]},
    "bounds": {"Buckets": [], "most_sent": ["buckets", "line", "beats"], "breach": ["buckets", "stream"],
               "played": ["buckets", "stream"], "greatest_hold": ["buckets"], "greatest_wait": ["buckets", "kind"],
               "greatest_burst": ["buckets", "line", "top", "kind", "most"],
               "greatest_top": ["buckets", "line", "burst", "kind", "most"], "worst_stream": ["buckets"],
               "worst_stream_for": ["buckets", "kind"], "with_row": ["buckets", "line", "row"],
               "let_in": ["buckets", "line", "row", "most"]},
    "frames": {"round_of": ["table", "beats"], "shares": ["table"], "evened": ["table", "beats"],
               "is_round": ["table", "beats", "thing"], "are_shares": ["table", "thing"]},
}
ALLOWED_BUILTINS = """len range enumerate zip min max sum abs sorted reversed int str bool list tuple dict set
isinstance ord repr any all divmod map ValueError KeyError""".split()
DOUBLE_UNDERSCORES = ("__init__", "__eq__", "__repr__", "__str__", "__len__")
LIBRARY = [("heapq", {"heappop", "heappush"})]
BARRED = (ast.Global, ast.AsyncFunctionDef, ast.AsyncFor, ast.AsyncWith, ast.Await, ast.GeneratorExp, ast.Div,
          ast.Import)
BARRED_NAMES = """register mro elements open input law version_info with_traceback add_note type typing enum Enum Flag
dataclass sort""".split()


def tree_of(path):
    return ast.parse(path.read_text(), str(path))


def nodes(path, *kinds):
    return [node for node in ast.walk(tree_of(path)) if isinstance(node, kinds)]


def own_imports(imports):
    """Those that are not of the library's few words that may be imported."""
    return [node for node in imports if (node.module, {each.name for each in node.names}) not in LIBRARY]


class Interface(unittest.TestCase):
    def test_names_are_defined_where_they_are_listed(self):
        for module, names in INTERFACE.items():
            defined = {node.name: node for node in tree_of(FOLDER / f"{module}.py").body
                       if isinstance(node, (ast.FunctionDef, ast.ClassDef))}
            for name, parts in names.items():
                node = defined[name]
                if isinstance(node, ast.ClassDef):
                    methods = [part.name for part in node.body if isinstance(part, ast.FunctionDef)]
                    self.assertLessEqual(set(parts), set(methods), name)
                else:
                    self.assertEqual([part.arg for part in node.args.args], parts, name)


class Rules(unittest.TestCase):
    def test_files(self):
        names = [path.relative_to(FOLDER).as_posix() for path in FILES]
        self.assertIn("__init__.py", names)
        for path in FOLDER.rglob("*"):
            if "__pycache__" not in path.parts:
                self.assertEqual(path.suffix, ".py")
                self.assertRegex(path.stem, "^[a-z0-9_]+$")

    def test_sizes_and_characters(self):
        for path in FILES:
            text = path.read_text()
            self.assertLessEqual(len(text.splitlines()), 399, path)
            for sign in text:
                self.assertTrue(sign == "\n" or " " <= sign <= "~", path)
            for line in text.splitlines():
                self.assertLessEqual(len(line), 120, path)
            for node in nodes(path, ast.FunctionDef):
                self.assertLessEqual(node.end_lineno - node.lineno + 1, 40, node.name)

    def test_python_warns_of_nothing(self):
        with warnings.catch_warnings():
            warnings.simplefilter("error")
            for path in FILES:
                compile(path.read_text(), str(path), "exec")

    def test_imports_are_from_the_package_and_stand_at_the_top(self):
        for path in FILES:
            body = tree_of(path).body
            rest = body[1:] if ast.get_docstring(tree_of(path)) else body
            imports = [node for node in rest if isinstance(node, ast.ImportFrom)]
            self.assertEqual(rest[:len(imports)], imports)
            self.assertEqual(len(nodes(path, ast.ImportFrom)), len(imports))
            for node in own_imports(imports):
                self.assertEqual((node.level, node.module.split(".")[0]), (0, "exactbeats"))
                source = tree_of(FOLDER / f"{node.module.split('.')[1]}.py")
                defined = [part.name for part in source.body if isinstance(part, (ast.FunctionDef, ast.ClassDef))]
                defined += [target.id for part in source.body if isinstance(part, ast.Assign)
                            for target in part.targets]
                self.assertLessEqual({each.name for each in node.names}, set(defined))
                self.assertEqual({each.asname for each in node.names}, {None})

    def test_no_files_import_from_each_other(self):
        reached = {path.stem: {node.module.split(".")[1] for node in own_imports(nodes(path, ast.ImportFrom))}
                   for path in FILES}
        for _ in reached:
            reached = {name: others.union(*[reached[other] for other in others]) for name, others in reached.items()}
        for name, others in reached.items():
            self.assertNotIn(name, others)

    def test_imported_names_are_used(self):
        for path in FILES:
            used = {node.id for node in nodes(path, ast.Name)}
            for node in nodes(path, ast.ImportFrom):
                self.assertLessEqual({each.name for each in node.names}, used, path)

    def test_module_level(self):
        for path in FILES:
            for node in tree_of(path).body:
                plain = isinstance(node, ast.Expr) and isinstance(node.value, ast.Constant)
                self.assertTrue(plain or isinstance(
                    node, (ast.ImportFrom, ast.FunctionDef, ast.ClassDef, ast.Assign)), ast.dump(node))

    def test_barred_parts(self):
        for path in FILES:
            self.assertEqual([ast.dump(node) for node in nodes(path, *BARRED)], [])
            for node in nodes(path, ast.FunctionDef, ast.ClassDef):
                self.assertEqual(node.decorator_list, [])
                if isinstance(node, ast.FunctionDef) and node.name.startswith("__"):
                    self.assertIn(node.name, DOUBLE_UNDERSCORES)
            for node in nodes(path, ast.Constant):
                self.assertNotIsInstance(node.value, (float, complex))
                if isinstance(node.value, str):
                    self.assertNotIn("%", node.value)

    def test_sets_stand_only_where_they_may(self):
        for path in FILES:
            tree = tree_of(path)
            around = {id(part): node for node in ast.walk(tree) for part in ast.iter_child_nodes(node)}
            for node in ast.walk(tree):
                called = isinstance(node, ast.Call) and isinstance(node.func, ast.Name) and node.func.id == "set"
                if called or isinstance(node, (ast.Set, ast.SetComp)):
                    outer = around[id(node)]
                    self.assertTrue(isinstance(outer, ast.Call) and outer.func.id in ("len", "sorted"), ast.dump(outer))

    def test_errors_that_are_caught_are_own_ones(self):
        own = {node.name for node in nodes(FOLDER / "errors.py", ast.ClassDef)}
        for path in FILES:
            for node in nodes(path, ast.ExceptHandler):
                self.assertIsNone(node.name)
                for each in node.type.elts if isinstance(node.type, ast.Tuple) else [node.type]:
                    self.assertIn(each.id, own)
            for node in nodes(path, ast.Raise):
                self.assertIn(node.exc.func.id, own)

    def test_a_list_stands_where_an_own_equality_could_be_asked_late(self):
        for path in FILES:
            for node in nodes(path, ast.Call):
                if isinstance(node.func, ast.Name) and node.func.id in ("any", "all"):
                    self.assertIsInstance(node.args[0], ast.ListComp)

    def test_builtins(self):
        for path in FILES:
            for node in nodes(path, ast.Name):
                if hasattr(builtins, node.id):
                    self.assertIn(node.id, ALLOWED_BUILTINS)
                    self.assertIsInstance(node.ctx, ast.Load, node.id)
            for node in nodes(path, ast.FunctionDef, ast.ClassDef):
                self.assertFalse(node.name[:2] != "__" and hasattr(builtins, node.name), node.name)
            for node in nodes(path, ast.arg):
                self.assertFalse(hasattr(builtins, node.arg), node.arg)

    def test_names(self):
        for path in FILES:
            names = [node.id for node in nodes(path, ast.Name)] + [node.attr for node in nodes(path, ast.Attribute)]
            names += [node.name for node in nodes(path, ast.FunctionDef, ast.ClassDef)]
            names += [node.arg for node in nodes(path, ast.arg)]
            for name in names:
                self.assertNotIn(name, BARRED_NAMES)
                self.assertFalse(name.startswith("__") and name not in DOUBLE_UNDERSCORES, name)

    def test_no_variable_has_the_name_of_a_class_or_an_import(self):
        for path in FILES:
            taken = {each.name for node in nodes(path, ast.ImportFrom) for each in node.names}
            taken |= {node.name for node in nodes(path, ast.ClassDef)}
            stored = {node.id for node in nodes(path, ast.Name) if isinstance(node.ctx, ast.Store)}
            stored |= {node.arg for node in nodes(path, ast.arg)}
            self.assertEqual(taken & stored, set(), path)


if __name__ == "__main__":
    unittest.main()
