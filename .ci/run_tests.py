"""Run all tests of some folders and print at the end how many passed and failed.

The folders are told as arguments; one that does not exist is passed over,
except the first one, which holds the tests of the project.
"""

import importlib.util
import pathlib
import sys
import traceback
import unittest


class Result(unittest.TextTestResult):
    """Counts each test once, however many of its subtests fail."""

    def __init__(self, *told):
        super().__init__(*told)
        self.passed = 0

    def addSuccess(self, test):
        super().addSuccess(test)
        self.passed += 1

    def addExpectedFailure(self, test, error):
        super().addExpectedFailure(test, error)
        self.passed += 1

    def count_failed(self):
        failed = [test for test, _ in self.failures + self.errors] + list(self.unexpectedSuccesses)
        return len({getattr(test, "test_case", test).id() for test in failed})


def load(path, number):
    """Load a test file under a name of its own, so that equal file names do not collide."""
    spec = importlib.util.spec_from_file_location(f"tests_{number}_{path.stem}", path)
    module = importlib.util.module_from_spec(spec)
    sys.modules[spec.name] = module
    spec.loader.exec_module(module)
    return unittest.defaultTestLoader.loadTestsFromModule(module)


def forget_modules_of(folder):
    """Another folder of tests may have helpers of the same names."""
    for name, module in list(sys.modules.items()):
        place = getattr(module, "__file__", None)
        if place and pathlib.Path(place).parent == folder:
            del sys.modules[name]


def run_file(path, number):
    """Return how many tests of a file passed, failed and were skipped."""
    print(path, flush=True)
    sys.path.insert(0, str(path.parent))
    try:
        suite = load(path, number)
        result = unittest.TextTestRunner(stream=sys.stdout, resultclass=Result).run(suite)
    except Exception:
        traceback.print_exc(file=sys.stdout)
        return (0, 1, 0)
    finally:
        sys.path.remove(str(path.parent))
        forget_modules_of(path.parent)
    return (result.passed, result.count_failed(), len(result.skipped))


def main(folders):
    sys.path.insert(0, str(pathlib.Path.cwd()))
    paths = [path for folder in folders for path in sorted(pathlib.Path(folder).rglob("test_*.py"))]
    counts = [run_file(path.resolve(), number) for number, path in enumerate(paths)]
    passed, failed, skipped = [sum(column) for column in zip((0, 0, 0), *counts)]
    print(f"{passed} passed, {failed} failed" + (f", {skipped} skipped" if skipped else ""))
    own = list(pathlib.Path(folders[0]).rglob("test_*.py"))
    return 0 if own and passed and not failed else 1


if __name__ == "__main__":
    sys.exit(main(sys.argv[1:]))
