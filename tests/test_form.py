"""The interface as it is listed, the kinds of what it tells, and the errors with their values."""

import importlib
import inspect
import unittest

from hingehall import errors
from hingehall.bench import Bench
from hingehall.notes import read, written
from hingehall.papers import lifted, paper, shows
from hingehall.steps import may, walk
from hingehall.turning import mirrored, turned
from hingehall.ways import far, gentlest, lost, oneway, reached, shortest, still

LISTED = {
    "steps": {"walk": "(hall, cells, steps)", "may": "(hall, cells)"},
    "ways": {
        "shortest": "(hall, cells, goal)", "gentlest": "(hall, cells, goal)", "reached": "(hall, cells)",
        "still": "(hall, cells)", "oneway": "(hall, cells)", "lost": "(hall, cells, goal)", "far": "(hall, cells)",
    },
    "papers": {
        "paper": "(hall, cells, goal)", "shows": "(hall, cells, goal, told)",
        "lifted": "(hall, cells, goal, *, most=6)",
    },
    "turning": {"turned": "(hall, cells)", "mirrored": "(hall, cells)"},
    "notes": {"written": "(hall, cells)", "read": "(text)"},
}
METHODS = {
    "step": "(self, step)", "may": "(self)", "steps": "(self)", "told": "(self)", "marks": "(self)",
    "batch": "(self, steps, *, keep=True)", "standing": "(self)", "back": "(self)", "is_idle": "(self)",
    "mark": "(self, name)", "go": "(self, name)",
}
ERRORS = {
    "BadHall": ("part", "number"), "BadCells": ("number",), "BadGoal": ("number",), "BadStep": ("number",),
    "BadPaper": ("number",), "BadCount": (), "TooMany": (), "Meets": (), "BadName": (), "NoPoint": (),
    "Halted": ("number", "done"), "BadText": ("row",),
}


class Interface(unittest.TestCase):
    def test_functions_are_defined_where_they_are_listed(self):
        for file, functions in LISTED.items():
            module = importlib.import_module(f"hingehall.{file}")
            for name, asked in functions.items():
                with self.subTest(file=file, name=name):
                    function = getattr(module, name)
                    self.assertEqual(function.__module__, f"hingehall.{file}")
                    self.assertEqual(str(inspect.signature(function)), asked)

    def test_the_bench_has_its_methods_in_its_own_class(self):
        self.assertEqual(Bench.__module__, "hingehall.bench")
        self.assertEqual(str(inspect.signature(Bench)), "(hall, cells)")
        self.assertEqual(sorted(name for name in vars(Bench) if not name.startswith("_")), sorted(METHODS))
        for name, asked in METHODS.items():
            with self.subTest(name=name):
                self.assertEqual(str(inspect.signature(vars(Bench)[name])), asked)

    def test_each_error_is_a_refusal_and_under_no_other(self):
        self.assertEqual(errors.HallError.__bases__, (ValueError,))
        self.assertEqual(errors.HallError.__module__, "hingehall.errors")
        for name in ERRORS:
            with self.subTest(name=name):
                found = getattr(errors, name)
                self.assertTrue(issubclass(found, errors.HallError))
                self.assertEqual(found.__module__, "hingehall.errors")
                self.assertEqual([other for other in ERRORS if issubclass(found, getattr(errors, other))], [name])

    def test_each_error_has_its_values(self):
        for name, values in ERRORS.items():
            with self.subTest(name=name):
                error = getattr(errors, name)(*range(3, 3 + len(values)))
                self.assertEqual([getattr(error, value) for value in values], list(range(3, 3 + len(values))))
                with self.assertRaises(errors.HallError):
                    raise error


class Kinds(unittest.TestCase):
    """Each name tells a value of the kind that is listed."""

    def setUp(self):
        self.hall = (2, 2, ((1, 1, "|"),), ((1, 1, "n"),))
        self.cells = ((0, 1),)

    def test_numbers_and_pairs(self):
        for told in (walk(self.hall, self.cells, ()), gentlest(self.hall, self.cells, ((0, 0),)),
                     far(self.hall, self.cells), turned(self.hall, self.cells), mirrored(self.hall, self.cells),
                     read(written(self.hall, self.cells)), Bench(self.hall, self.cells).standing()):
            self.assertEqual([type(told), len(told)], [tuple, 2])

    def test_lists(self):
        bench = Bench(self.hall, self.cells)
        for told in (may(self.hall, self.cells), reached(self.hall, self.cells), still(self.hall, self.cells),
                     oneway(self.hall, self.cells), lost(self.hall, self.cells, (None,)),
                     paper(self.hall, self.cells, ((1, 0),)), bench.may(), bench.steps(), bench.told(), bench.marks(),
                     bench.batch([])):
            self.assertIs(type(told), list)

    def test_tuples_or_none(self):
        self.assertIs(type(shortest(self.hall, self.cells, ((0, 0),))), tuple)
        self.assertIs(shortest(self.hall, self.cells, ((1, 0),)), None)
        self.assertIs(gentlest(self.hall, self.cells, ((1, 0),)), None)
        self.assertIs(type(lifted(self.hall, self.cells, ((1, 0),))), tuple)
        self.assertIs(lifted(self.hall, self.cells, ((1, 0),), most=0), None)

    def test_texts_truths_and_none(self):
        bench = Bench(self.hall, self.cells)
        self.assertIs(type(written(self.hall, self.cells)), str)
        self.assertIs(shows(self.hall, self.cells, ((1, 0),), []), False)
        self.assertIs(bench.back(), False)
        self.assertIs(bench.is_idle(), True)
        self.assertIs(bench.mark("a"), None)
        self.assertIs(bench.go("a"), None)
        self.assertIs(bench.step((0, "s")), None)
        bench.back()
        self.assertIs(type(bench.step((0, "w"))), int)
        self.assertIs(bench.back(), True)

    def test_arguments_by_their_names(self):
        hall, cells = self.hall, self.cells
        self.assertEqual(walk(hall=hall, cells=cells, steps=()), walk(hall, cells, ()))
        self.assertEqual(lifted(hall=hall, cells=cells, goal=((1, 0),), most=1), (0,))
        self.assertIs(shows(hall=hall, cells=cells, goal=(None,), told=[]), False)
        self.assertEqual(read(text=written(hall=hall, cells=cells)), (hall, cells))
        bench = Bench(hall=hall, cells=cells)
        self.assertEqual(bench.batch(steps=[(0, "w")], keep=False), [0])
        self.assertIs(bench.step(step=(0, "e")), None)
        self.assertIs(bench.mark(name="a"), None)
        self.assertIs(bench.go(name="a"), None)


if __name__ == "__main__":
    unittest.main()
