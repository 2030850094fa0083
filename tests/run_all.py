"""Run every test_*.py below the folders named, print a line that counts the tests, fail if one fails."""

import importlib.util
import pathlib
import sys
import unittest


def forget_beside(path, known):
    """Forget what a file imported from beside it: another folder may have a helper of the same name."""
    for name, module in list(sys.modules.items()):
        place = getattr(module, "__file__", None)
        if name not in known and place is not None and pathlib.Path(place).resolve().parent == path.parent:
            del sys.modules[name]


def loaded(path, number):
    """The tests of one file, under a name of its own: two folders may have files of one name."""
    known = list(sys.modules)
    name = f"{path.stem}_{number}"
    spec = importlib.util.spec_from_file_location(name, path)
    module = importlib.util.module_from_spec(spec)
    sys.modules[name] = module
    known.append(name)
    sys.path.insert(0, str(path.parent))
    try:
        spec.loader.exec_module(module)
    finally:
        sys.path.remove(str(path.parent))
        forget_beside(path, known)
    return unittest.defaultTestLoader.loadTestsFromModule(module)


def test_files(folders):
    return [path for folder in folders for path in sorted(pathlib.Path(folder).rglob("test_*.py"))]


def failed_names(result):
    """Each failed test once, however many of its subtests failed."""
    failed = [test for test, _ in result.failures + result.errors] + result.unexpectedSuccesses
    return {getattr(test, "test_case", test).id() for test in failed}


def main(folders):
    sys.path.insert(0, str(pathlib.Path(__file__).resolve().parent.parent))
    suite = unittest.TestSuite()
    for number, path in enumerate(test_files(folders)):
        tests = loaded(path.resolve(), number)
        print(f"{path}: {tests.countTestCases()} tests", flush=True)
        suite.addTests(tests)
    result = unittest.TextTestRunner(stream=sys.stdout).run(suite)
    failed = len(failed_names(result))
    skipped = len(result.skipped)
    print(f"{max(0, result.testsRun - failed - skipped)} passed, {failed} failed, {skipped} skipped")
    return 0 if result.wasSuccessful() and result.testsRun else 1


if __name__ == "__main__":
    sys.exit(main(sys.argv[1:]))
