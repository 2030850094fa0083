"""[2], [3], [4]: what a hall is and where walkers may stand; what is refused, and in which order."""

import unittest

from hingehall.bench import Bench
from hingehall.errors import BadCells, BadHall
from hingehall.notes import written
from hingehall.papers import lifted, paper, shows
from hingehall.steps import may, walk
from hingehall.turning import mirrored, turned
from hingehall.ways import far, gentlest, lost, oneway, reached, shortest, still

# All that takes a hall and cells, with a goal for one walker where one is asked.
ASKED = {
    "walk": lambda hall, cells: walk(hall, cells, ()),
    "may": may,
    "shortest": lambda hall, cells: shortest(hall, cells, (None,)),
    "gentlest": lambda hall, cells: gentlest(hall, cells, (None,)),
    "reached": reached,
    "far": far,
    "still": still,
    "oneway": oneway,
    "lost": lambda hall, cells: lost(hall, cells, (None,)),
    "paper": lambda hall, cells: paper(hall, cells, (None,)),
    "shows": lambda hall, cells: shows(hall, cells, (None,), []),
    "lifted": lambda hall, cells: lifted(hall, cells, (None,)),
    "turned": turned,
    "mirrored": mirrored,
    "Bench": Bench,
    "written": written,
}
# What is handed in behind hall and cells can't be, either.
ASKED_WRONG = {
    "walk": lambda hall, cells: walk(hall, cells, None),
    "shortest": lambda hall, cells: shortest(hall, cells, None),
    "gentlest": lambda hall, cells: gentlest(hall, cells, None),
    "lost": lambda hall, cells: lost(hall, cells, None),
    "paper": lambda hall, cells: paper(hall, cells, None),
    "shows": lambda hall, cells: shows(hall, cells, None, None),
    "lifted": lambda hall, cells: lifted(hall, cells, None, most=None),
}
START = ((0, 0),)

# What is neither a tuple nor a whole number.
OTHERS = (None, True, False, "", "text", [], [(0, 0)])

# Forty edges lie between the cells of the greatest hall.
GREAT = tuple((row, column, "-") for row in range(1, 5) for column in range(5)) + tuple(
    (row, column, "|") for row in range(5) for column in range(1, 5)
)
# Seven doors, each on an edge of its own: along the second line of corners, then up from the third.
SEVEN = tuple((1, column, "e") for column in range(4)) + ((3, 1, "n"), (3, 2, "n"), (3, 3, "n"))


class Refusing(unittest.TestCase):
    def hall_refused(self, hall, part, number, cells=START):
        for name, asked in ASKED.items():
            with self.subTest(asked=name, hall=hall):
                with self.assertRaises(BadHall) as caught:
                    asked(hall, cells)
                self.assertEqual((caught.exception.part, caught.exception.number), (part, number))

    def cells_refused(self, hall, cells, number):
        for name, asked in ASKED.items():
            with self.subTest(asked=name, cells=cells):
                with self.assertRaises(BadCells) as caught:
                    asked(hall, cells)
                self.assertEqual(caught.exception.number, number)


class Halls(Refusing):
    def test_every_size_from_one_to_five(self):
        for rows in range(1, 6):
            for columns in range(1, 6):
                self.assertEqual(far((rows, columns, (), ()), START), (rows * columns, rows + columns - 2))

    def test_no_tuple_of_four(self):
        for hall in OTHERS + (0, 3, (), (3,), (3, 3), (3, 3, ()), (3, 3, (), (), ()), [3, 3, (), ()], "33()"):
            self.hall_refused(hall, 0, 0)
        self.hall_refused((0, 0, (), None, ()), 0, 0)

    def test_rows(self):
        for rows in OTHERS + (0, 6, -1, 100, (3,), ()):
            self.hall_refused((rows, 3, (), ()), 0, 0)

    def test_columns(self):
        for columns in OTHERS + (0, 6, -1, 100, (3,), ()):
            self.hall_refused((3, columns, (), ()), 1, 0)

    def test_walls_and_doors_are_tuples(self):
        for things in OTHERS + (0, 7, [(1, 0, "-")]):
            self.hall_refused((3, 3, things, ()), 2, 0)
            self.hall_refused((3, 3, (), things), 3, 0)

    def test_the_form_of_a_wall(self):
        forms = (
            (), (1,), (1, 1), (1, 1, "-", "-"), [1, 1, "-"], "11-",
            (True, 1, "-"), (1, True, "-"), (1, False, "-"), ("1", 1, "-"), (1, "1", "-"),
            (None, 1, "-"), (1, None, "-"), ([1], 1, "-"), (1, (1,), "-"),
            (1, 1, ""), (1, 1, "-|"), (1, 1, "+"), (1, 1, "e"), (1, 1, None), (1, 1, 0), (1, 1, True),
            (1, 1, ["-"]), (1, 1, ("|",)),
        )
        for wall in OTHERS + (0, 1) + forms:
            self.hall_refused((3, 3, (wall,), ()), 2, 0)
            self.hall_refused((3, 3, ((2, 2, "-"), wall), ()), 2, 1)

    def test_the_form_of_a_door(self):
        forms = (
            (), (1,), (1, 1), (1, 1, "n", "n"), [1, 1, "n"], "11n",
            (True, 1, "n"), (1, True, "n"), (False, 1, "s"), (1, False, "e"), (1, True, "w"),
            ("1", 1, "n"), (1, "1", "n"), (1, "1", "w"), (None, 1, "n"), (1, None, "n"), (1, None, "w"),
            ([1], 1, "n"), (1, (1,), "n"), (1, (1,), "w"),
            (1, 1, ""), (1, 1, "ne"), (1, 1, "N"), (1, 1, "-"), (1, 1, "up"), (1, 1, None), (1, 1, 0),
            (1, 1, True), (1, 1, ["n"]), (1, 1, ("n",)),
        )
        for door in OTHERS + (0, 1) + forms:
            self.hall_refused((3, 3, (), (door,)), 3, 0)
            self.hall_refused((3, 3, (), ((2, 2, "s"), door)), 3, 1)

    def test_edges_of_walls_lie_between_two_cells(self):
        rows, columns = 2, 3
        for row in range(-1, 4):
            for column in range(-1, 5):
                across = 1 <= row < rows and 0 <= column < columns
                down = 0 <= row < rows and 1 <= column < columns
                for sign, stands in (("-", across), ("|", down)):
                    hall = (rows, columns, ((row, column, sign),), ())
                    if stands:
                        self.assertEqual(len(reached(hall, START)[0]), 6)
                    else:
                        self.hall_refused(hall, 2, 0)

    def test_edges_of_doors_lie_between_two_cells(self):
        rows, columns = 2, 3
        tips = {"n": (-1, 0), "e": (0, 1), "s": (1, 0), "w": (0, -1)}
        inner = [{(1, column), (1, column + 1)} for column in range(3)]
        inner += [{(row, column), (row + 1, column)} for row in range(2) for column in (1, 2)]
        for row in range(-2, 5):
            for column in range(-2, 6):
                for way, (down, right) in tips.items():
                    hall = (rows, columns, (), ((row, column, way),))
                    if {(row, column), (row + down, column + right)} in inner:
                        self.assertEqual(walk(hall, START, ()), ((START, way), []))
                    else:
                        self.hall_refused(hall, 3, 0)

    def test_no_edges_in_a_hall_of_one_cell(self):
        for sign in "-|":
            for row in range(3):
                for column in range(3):
                    self.hall_refused((1, 1, ((row, column, sign),), ()), 2, 0)
        for way in "nesw":
            for row in range(2):
                for column in range(2):
                    self.hall_refused((1, 1, (), ((row, column, way),)), 3, 0)

    def test_twenty_four_walls_and_a_25th(self):
        self.assertEqual(may((5, 5, GREAT[:24], ()), ((1, 0),)), [(0, "e")])
        self.assertEqual(may((5, 5, GREAT[:24], ()), START), [])
        self.hall_refused((5, 5, GREAT[:25], ()), 2, 24)
        self.hall_refused((5, 5, GREAT, ()), 2, 24)
        self.hall_refused((5, 5, GREAT[:24] + (None,), ()), 2, 24)
        self.hall_refused((5, 5, GREAT[:24] + (None, None), ()), 2, 24)
        self.hall_refused((5, 5, GREAT[:9] + (None,) + GREAT[9:], ()), 2, 9)

    def test_six_doors_and_a_seventh(self):
        self.assertEqual(walk((5, 5, (), SEVEN[:6]), START, ()), ((START, "eeeenn"), []))
        self.hall_refused((5, 5, (), SEVEN), 3, 6)
        self.hall_refused((5, 5, (), SEVEN + (None,)), 3, 6)
        self.hall_refused((5, 5, (), SEVEN[:6] + (None,)), 3, 6)
        self.hall_refused((5, 5, (), SEVEN[:2] + (None,) + SEVEN[2:]), 3, 2)

    def test_two_walls_on_one_edge(self):
        self.hall_refused((3, 3, ((1, 1, "-"), (1, 1, "-")), ()), 2, 1)
        self.hall_refused((3, 3, ((1, 1, "|"), (2, 1, "-"), (1, 2, "|"), (1, 1, "|")), ()), 2, 3)
        self.assertEqual(may((3, 3, ((1, 1, "-"), (1, 1, "|")), ()), ((1, 1),)), [(0, "e"), (0, "s")])

    def test_a_door_on_a_wall(self):
        for door in ((1, 1, "n"), (0, 1, "s")):
            self.hall_refused((3, 3, ((2, 1, "-"), (0, 1, "|")), (door,)), 3, 0)
            self.hall_refused((3, 3, ((2, 1, "-"), (0, 1, "|")), ((2, 2, "e"), door)), 3, 1)
        for door in ((1, 1, "e"), (1, 2, "w")):
            self.hall_refused((3, 3, ((1, 1, "-"),), (door,)), 3, 0)

    def test_two_doors_on_one_edge(self):
        pairs = (((1, 1, "n"), (1, 1, "n")), ((1, 1, "n"), (0, 1, "s")), ((1, 1, "e"), (1, 2, "w")))
        for one, other in pairs:
            self.hall_refused((3, 3, (), (one, other)), 3, 1)
            self.hall_refused((3, 3, (), (other, (2, 2, "s"), one)), 3, 2)

    def test_four_doors_may_hang_at_one_corner(self):
        doors = ((1, 1, "n"), (1, 1, "e"), (1, 1, "s"), (1, 1, "w"))
        self.assertEqual(walk((2, 2, (), doors), START, ()), ((START, "nesw"), []))
        self.assertEqual(still((2, 2, (), doors), START), [0, 1, 2, 3])

    def test_the_first_thing_that_cannot_be(self):
        self.hall_refused((0, 0, None, None), 0, 0)
        self.hall_refused((3, 0, None, None), 1, 0)
        self.hall_refused((3, 3, None, None), 2, 0)
        self.hall_refused((3, 3, (None,), None), 2, 0)
        self.hall_refused((3, 3, ((1, 1, "-"), None, (0, 0, "-")), (None,)), 2, 1)
        self.hall_refused((3, 3, ((1, 1, "-"), (0, 0, "-"), None), (None,)), 2, 1)
        self.hall_refused((3, 3, ((1, 1, "-"), (1, 1, "-"), (0, 0, "-")), ()), 2, 1)
        self.hall_refused((3, 3, ((1, 1, "-"),), ((2, 2, "n"), None, None)), 3, 1)
        self.hall_refused((3, 3, ((1, 1, "-"),), ((1, 1, "e"), None)), 3, 0)


class Cells(Refusing):
    def test_one_to_three_walkers(self):
        for cells in (((1, 2),), ((1, 2), (0, 0)), ((1, 2), (0, 0), (0, 2))):
            self.assertEqual(walk((2, 3, (), ()), cells, ()), ((cells, ""), []))

    def test_a_fourth_walker(self):
        cells = ((0, 0), (0, 1), (0, 2), (1, 0))
        self.cells_refused((2, 3, (), ()), cells, 3)
        self.cells_refused((2, 3, (), ()), cells + ((1, 1),), 3)
        self.cells_refused((2, 3, (), ()), cells[:3] + (None,), 3)
        self.cells_refused((2, 3, (), ()), cells[:3] + ((0, 0),), 3)
        self.cells_refused((2, 3, (), ()), ((0, 0), None) + cells[2:], 1)

    def test_no_tuple_or_none(self):
        for cells in OTHERS + (0, 1, (), [(0, 0)]):
            self.cells_refused((2, 3, (), ()), cells, 0)

    def test_the_form_of_a_cell(self):
        forms = ((), (0,), (0, 0, 0), [0, 0], "00", (True, 0), (0, True), (False, 0), (0, False), ("0", 0), (0, "0"),
                 (None, 0), (0, None), ([0], 0), (0, (0,)))
        for cell in OTHERS + (0, 1) + forms:
            self.cells_refused((2, 3, (), ()), (cell,), 0)
            self.cells_refused((2, 3, (), ()), ((1, 1), cell), 1)
            self.cells_refused((2, 3, (), ()), ((1, 1), (1, 2), cell), 2)

    def test_cells_lie_in_the_hall(self):
        for row in range(-2, 4):
            for column in range(-2, 5):
                cell = (row, column)
                if 0 <= row < 2 and 0 <= column < 3:
                    self.assertEqual(walk((2, 3, (), ()), (cell,), ())[0], ((cell,), ""))
                else:
                    self.cells_refused((2, 3, (), ()), (cell,), 0)

    def test_two_walkers_on_one_cell(self):
        self.cells_refused((2, 3, (), ()), ((1, 1), (1, 1)), 1)
        self.cells_refused((2, 3, (), ()), ((1, 1), (0, 1), (1, 1)), 2)
        self.cells_refused((2, 3, (), ()), ((0, 1), (1, 1), (1, 1)), 2)

    def test_the_first_cell_that_cannot_be(self):
        self.cells_refused((2, 3, (), ()), ((1, 1), (1, 1), (5, 5)), 1)
        self.cells_refused((2, 3, (), ()), ((9, 9), (9, 9)), 0)
        self.cells_refused((2, 3, (), ()), ((0, 0), (9, 9), (0, 0)), 1)

    def test_the_hall_is_refused_ahead_of_the_cells(self):
        for cells in (None, (), ((9, 9),)):
            for name, asked in (("may", may), ("far", far), ("walk", lambda hall, cells: walk(hall, cells, None))):
                with self.subTest(asked=name):
                    with self.assertRaises(BadHall):
                        asked((0, 3, (), ()), cells)
            for asked in (shortest, gentlest, lost):
                with self.assertRaises(BadHall):
                    asked((2, 3, (), (None,)), cells, None)
            for asked in (reached, still, oneway, turned, mirrored, Bench, written):
                with self.assertRaises(BadHall):
                    asked((2, 3, ((0, 0, "-"),), ()), cells)

    def test_hall_and_cells_are_refused_ahead_of_all_else(self):
        for name, asked in ASKED_WRONG.items():
            with self.subTest(asked=name):
                with self.assertRaises(BadHall) as caught:
                    asked((2, 3, (), ((1, 1, "n"), None)), None)
                self.assertEqual((caught.exception.part, caught.exception.number), (3, 1))
                with self.assertRaises(BadCells) as caught:
                    asked((2, 3, (), ((1, 1, "n"),)), ((0, 0), None))
                self.assertEqual(caught.exception.number, 1)


if __name__ == "__main__":
    unittest.main()
