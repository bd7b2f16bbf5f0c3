"""The names of the interface, and what can be told of the files as texts."""

import ast
import inspect
import pathlib
import unittest

from oilwalk import codec, live, notation, planning, stretches, walking, watching, ways

PACKAGE = pathlib.Path(__file__).resolve().parent.parent / "oilwalk"
LIBRARY = ("__future__", "heapq", "math", "itertools", "collections")


def package_files():
    return sorted(PACKAGE.rglob("*.py"))


def trees():
    return [(path.name, ast.parse(path.read_text(encoding="utf-8"))) for path in package_files()]


class Interface(unittest.TestCase):
    def check_class(self, module, name, members, properties):
        found = getattr(module, name)
        self.assertEqual(found.__module__, module.__name__)
        for member in members:
            self.assertIn(member, vars(found))
        for member in properties:
            self.assertIsInstance(vars(found)[member], property)

    def check_arguments(self, call, told):
        self.assertEqual(str(inspect.signature(call)), f"({told})")

    def check_functions(self, module, told):
        for name, arguments in told.items():
            with self.subTest(name):
                found = getattr(module, name)
                self.assertTrue(inspect.isfunction(found))
                self.assertEqual(found.__module__, module.__name__)
                self.check_arguments(found, arguments)

    def test_stretch(self):
        members = ["__init__", "__call__", "__bool__", "__add__", "__mul__", "__eq__"]
        self.check_class(stretches, "Stretch", members, ["need", "gain", "top"])
        self.assertIsInstance(vars(stretches.Stretch)["barred"], classmethod)

    def test_way(self):
        members = ["__init__", "__len__", "__getitem__", "__rshift__", "__invert__", "__eq__", "__iter__"]
        members.extend(["with_post", "with_capacity", "stretch"])
        self.check_class(ways, "Way", members, ["capacity", "posts", "surplus"])
        self.assertIsInstance(vars(ways.Way)["even"], classmethod)

    def test_walking(self):
        self.check_functions(walking, {
            "oil_after": "way, post, oil, legs",
            "is_endless": "way, post, oil",
            "goes_out": "way, post, oil",
            "settled": "way, post, oil",
            "least_oil": "way, post",
            "good_posts": "way",
            "first_unlike": "way, other, post, oil",
        })

    def test_planning(self):
        self.check_functions(planning, {
            "judge_stretch": "way, post, legs",
            "worst_stretch": "way",
            "least_capacity": "way",
            "helpful_posts": "way",
            "fewest_stops": "way, post, oil, legs",
            "stops_needed": "way, post, oil, legs",
        })

    def test_live_walk(self):
        told = {
            "walk": "legs", "spill": "oil", "refill": "post, oil", "trade": "capacity",
            "undo": "", "redo": "", "apply": "*operations", "oil_with": "*operations",
        }
        members = ["__init__", "__enter__", "__exit__", *told]
        properties = ["way_now", "post_now", "oil_now", "walked", "history"]
        self.check_class(live, "LiveWalk", members, properties)
        self.assertIsInstance(vars(live.LiveWalk)["replay"], classmethod)
        self.check_arguments(live.LiveWalk, "way, post, oil")
        self.check_arguments(live.LiveWalk.replay, "way, post, oil, operations")
        for name, arguments in told.items():
            with self.subTest(name):
                self.check_arguments(vars(live.LiveWalk)[name], ", ".join(["self", arguments]).removesuffix(", "))

    def test_oil_observer(self):
        told = {
            "how_many": "", "see": "start, held, legs, left", "left_range": "start, held, legs",
            "least_endless": "start, held",
        }
        found = watching.OilObserver
        members = ["__init__", "__contains__", *told]
        self.check_class(watching, "OilObserver", members, ["oil_range", "observations"])
        self.assertIsInstance(vars(found)["from_log"], classmethod)
        self.check_arguments(found, "way, post")
        self.check_arguments(found.from_log, "way, post, *observations")
        for name, arguments in told.items():
            with self.subTest(name):
                self.check_arguments(vars(found)[name], ", ".join(["self", arguments]).removesuffix(", "))

    def test_notation(self):
        self.check_functions(notation, {
            "format_way": "way",
            "parse_way": "text",
            "log_text": "way, post, oil, legs",
        })

    def test_codec(self):
        self.check_functions(codec, {
            "pack_bytes": "values",
            "unpack_bytes": "data",
            "encode_way": "way",
            "decode_way": "data",
        })


class Files(unittest.TestCase):
    def test_the_package_holds_python_files_only(self):
        found = [path for path in PACKAGE.rglob("*") if "__pycache__" not in path.parts and path.is_file()]
        self.assertEqual(sorted(found), package_files())
        self.assertTrue((PACKAGE / "__init__.py").is_file())

    def test_lines_and_characters(self):
        for path in package_files():
            lines = path.read_text(encoding="utf-8").split("\n")
            with self.subTest(path.name):
                self.assertLessEqual(len(lines), 399)
                self.assertLessEqual(max(len(line) for line in lines), 120)
                self.assertTrue(all(" " <= character <= "~" for line in lines for character in line))

    def test_functions_are_small(self):
        for name, tree in trees():
            for node in ast.walk(tree):
                if isinstance(node, ast.FunctionDef):
                    with self.subTest(name, function=node.name):
                        self.assertLessEqual(node.end_lineno - node.lineno + 1, 40)

    def test_imports_are_of_the_package_or_the_few_allowed_files(self):
        for name, tree in trees():
            for node in ast.walk(tree):
                self.assertNotIsInstance(node, ast.Import, name)
                if isinstance(node, ast.ImportFrom):
                    self.assertEqual(node.level, 0)
                    self.assertTrue(node.module.startswith("oilwalk.") or node.module in LIBRARY, (name, node.module))


if __name__ == "__main__":
    unittest.main()
