"""[12]: a hall and cells written as rows, and read again."""

import random
import unittest

import oracle
from examples import MANY, MANY_CELLS, ROUND, TRAP, TRAPPED, VALVE, VALVED
from hingehall.errors import BadCells, BadHall, BadText
from hingehall.notes import read, written

FULL = (2, 3, ((1, 0, "-"), (0, 1, "|"), (1, 2, "|")), ((1, 1, "e"), (1, 3, "w"), (0, 2, "s"), (2, 1, "n")))
FULL_CELLS = ((0, 0), (1, 2), (0, 2))
FULL_ROWS = ["hall 2 3", "wall 1 0 -", "wall 0 1 |", "wall 1 2 |", "door 1 1 e", "door 1 3 w", "door 0 2 s",
             "door 2 1 n", "at 0 0", "at 1 2", "at 0 2"]

NO_ROWS = (
    "", " ", "hall", "wall", "door", "at", "rows 2 3", "hall 2", "at 0", "wall 1 0", "door 1 1", "at 0 0 0",
    "hall 2 3 4", "wall 1 0 - -", "door 1 1 e e", "at 0 0 -", "wall - 1 0", "door e 1 1", "0 0", "0 0 at", "at0 0",
    "at 00", "at 0 0 ", " at 0 0", "at  0 0", "at 0  0", "wall 1  0 -", "wall 1 0  -", "wall 1 0 - ", " wall 1 0 -",
    "door  1 1 e", "door 1 1 e ", "hall 2  3", "hall 2 3 ", " hall 2 3", "At 0 0", "WALL 1 0 -", "doors 1 1 e",
    "at 10 0", "at 0 10", "at 00 0", "at -1 0", "at 0 -1", "at +1 0", "at a 0", "at 0 a", "at 0 .", "at 0, 0",
    "wall 01 0 -", "wall 1 12 |", "door 1 11 e", "door 10 1 n", "hall 02 3", "hall 2 03", "hall 10 10",
    "wall 1 0 +", "wall 1 0 e", "wall 1 0 --", "wall 1 0 -|", "wall 1 0 0", "wall x 0 -", "wall 1 x -",
    "door 1 1 -", "door 1 1 |", "door 1 1 E", "door 1 1 x", "door 1 1 ne", "door 1 1 ensw", "door 1 1 0",
    "door x 1 n", "door 1 x n", "hall x 3", "hall 2 x", "at,0,0", "at 0 0;", "# at 0 0",
)


class Written(unittest.TestCase):
    def test_all_rows(self):
        self.assertEqual(written(FULL, FULL_CELLS), "\n".join(FULL_ROWS))
        self.assertEqual(written((1, 1, (), ()), ((0, 0),)), "hall 1 1\nat 0 0")
        self.assertEqual(written(ROUND, ((1, 0),)), "hall 2 2\ndoor 1 1 n\nat 1 0")
        self.assertEqual(written((3, 2, ((1, 1, "|"),), ()), ((2, 1), (0, 0))), "hall 3 2\nwall 1 1 |\nat 2 1\nat 0 0")

    def test_in_the_turn_in_which_they_are(self):
        told = written((3, 3, ((2, 2, "-"), (0, 1, "|"), (1, 0, "-")), ((2, 1, "s"), (1, 1, "s"))), ((2, 2), (0, 1)))
        self.assertEqual(told.split("\n"), ["hall 3 3", "wall 2 2 -", "wall 0 1 |", "wall 1 0 -", "door 2 1 s",
                                            "door 1 1 s", "at 2 2", "at 0 1"])

    def test_a_great_hall(self):
        told = written((5, 5, (), ((5, 4, "n"), (4, 5, "w"))), ((4, 4),))
        self.assertEqual(told, "hall 5 5\ndoor 5 4 n\ndoor 4 5 w\nat 4 4")

    def test_what_is_no_hall_and_no_cells(self):
        with self.assertRaises(BadHall) as caught:
            written((2, 2, ((1, 1, "-"), (0, 0, "-")), ()), None)
        self.assertEqual((caught.exception.part, caught.exception.number), (2, 1))
        with self.assertRaises(BadCells) as caught:
            written(ROUND, ((0, 0), (2, 0)))
        self.assertEqual(caught.exception.number, 1)

    def test_a_text(self):
        self.assertIs(type(written(FULL, FULL_CELLS)), str)
        self.assertEqual(written(FULL, FULL_CELLS), written(FULL, FULL_CELLS))


class Read(unittest.TestCase):
    def refused(self, rows, row):
        with self.subTest(rows=rows):
            with self.assertRaises(BadText) as caught:
                read("\n".join(rows))
            self.assertEqual(caught.exception.row, row)

    def test_what_is_written(self):
        for hall, cells in (
            (FULL, FULL_CELLS), (ROUND, ((1, 0),)), (VALVE, VALVED), (TRAP, TRAPPED), (MANY, MANY_CELLS),
            ((1, 1, (), ()), ((0, 0),)), ((5, 5, (), ()), ((4, 4), (0, 0), (2, 3))),
        ):
            self.assertEqual(read(written(hall, cells)), (hall, cells))
        chance = random.Random(9)
        for _ in range(200):
            hall = oracle.made_hall(chance, 5, 24, 6)
            cells = oracle.made_cells(chance, hall, 3)
            self.assertEqual(read(written(hall, cells)), (hall, cells))

    def test_a_text_by_hand(self):
        self.assertEqual(read("\n".join(FULL_ROWS)), (FULL, FULL_CELLS))
        self.assertEqual(read("hall 1 2\nat 0 1"), ((1, 2, (), ()), ((0, 1),)))
        self.assertEqual(read("hall 1 2\ndoor 0 1 s\nat 0 1\nat 0 0"), ((1, 2, (), ((0, 1, "s"),)), ((0, 1), (0, 0))))

    def test_the_kinds_of_what_is_told(self):
        told = read("\n".join(FULL_ROWS))
        self.assertEqual([type(told), len(told), type(told[0]), len(told[0])], [tuple, 2, tuple, 4])
        self.assertEqual([type(part) for part in told[0]], [int, int, tuple, tuple])
        things = told[0][2] + told[0][3] + told[1]
        self.assertEqual([type(thing) for thing in things], [tuple] * 10)
        self.assertEqual({type(value) for thing in things for value in thing}, {int, str})
        self.assertEqual(read("\n".join(FULL_ROWS)), told)

    def test_no_text(self):
        for text in (None, True, False, 0, 1, (), ("hall 1 1", "at 0 0"), [], ["hall 1 1", "at 0 0"]):
            with self.subTest(text=text):
                with self.assertRaises(BadText) as caught:
                    read(text)
                self.assertEqual(caught.exception.row, 0)

    def test_the_empty_text(self):
        self.refused([""], 0)
        self.refused(["", ""], 0)
        self.refused(["", "hall 2 2", "at 0 0"], 0)

    def test_a_line_end_too_much(self):
        self.refused(FULL_ROWS + [""], 11)
        self.refused(FULL_ROWS + ["", ""], 11)
        for row in range(11):
            self.refused(FULL_ROWS[:row] + [""] + FULL_ROWS[row:], row)

    def test_a_row_that_is_not_so_by_its_words(self):
        for words in NO_ROWS:
            self.refused([words], 0)
            self.refused([words] + FULL_ROWS[1:], 0)
            for row in range(1, 12):
                self.refused(FULL_ROWS[:row] + [words] + FULL_ROWS[row:], row)

    def test_a_blank_more_in_each_row(self):
        for row, words in enumerate(FULL_ROWS):
            for told in (" " + words, words + " ", words.replace(" ", "  "), words.replace(" ", "  ", 1)):
                self.refused(FULL_ROWS[:row] + [told] + FULL_ROWS[row + 1:], row)

    def test_numbers_of_two_figures_in_each_row(self):
        for row, words in enumerate(FULL_ROWS):
            parts = words.split(" ")
            for place in (1, 2):
                for number in ("0" + parts[place], "1" + parts[place], parts[place] + "0", "-" + parts[place]):
                    told = " ".join(parts[:place] + [number] + parts[place + 1:])
                    self.refused(FULL_ROWS[:row] + [told] + FULL_ROWS[row + 1:], row)

    def test_a_word_less_or_more_in_each_row(self):
        for row, words in enumerate(FULL_ROWS):
            parts = words.split(" ")
            for told in [parts[:place] + parts[place + 1:] for place in range(len(parts))] + [parts + parts[-1:]]:
                self.refused(FULL_ROWS[:row] + [" ".join(told)] + FULL_ROWS[row + 1:], row)

    def test_no_hall_though_it_is_the_first(self):
        for words in ("wall 1 0 -", "door 1 1 e", "at 0 0"):
            self.refused([words], 0)
            self.refused([words] + FULL_ROWS, 0)
        for row in range(1, 11):
            self.refused(FULL_ROWS[row:], 0)

    def test_a_hall_though_it_is_not_the_first(self):
        for row in range(1, 12):
            self.refused(FULL_ROWS[:row] + ["hall 2 3"] + FULL_ROWS[row:], row)

    def test_rows_out_of_turn(self):
        self.refused(["hall 3 3", "at 0 0", "wall 1 0 -"], 2)
        self.refused(["hall 3 3", "at 0 0", "door 1 1 e"], 2)
        self.refused(["hall 3 3", "door 1 1 e", "wall 1 0 -", "at 0 0"], 2)
        self.refused(["hall 3 3", "wall 1 0 -", "door 1 1 e", "wall 1 1 -", "at 0 0"], 3)
        self.refused(["hall 3 3", "wall 1 0 -", "at 0 0", "at 0 1", "door 1 1 e", "wall 1 1 -"], 4)
        # Not behind the row ahead alone: behind any of a later kind.
        self.refused(["hall 3 3", "at 0 0", "at 0 1", "wall 1 0 -", "door 1 1 e"], 3)

    def test_kinds_may_be_left_out(self):
        self.assertEqual(read("hall 2 2\nwall 1 1 -\nat 0 0"), ((2, 2, ((1, 1, "-"),), ()), ((0, 0),)))
        self.assertEqual(read("hall 2 2\ndoor 1 1 e\nat 0 0"), ((2, 2, (), ((1, 1, "e"),)), ((0, 0),)))

    def test_the_first_row_that_cannot_be(self):
        self.refused(["hall 2 2", "x", "y"], 1)
        self.refused(["x", "hall 2 2"], 0)
        self.refused(["hall 2 2", "at 0 0", "door 1 1 e", "x"], 2)
        self.refused(["hall 2 2", "at 0 0", "x", "door 1 1 e"], 2)
        self.refused(["hall 2 2", "hall 2 2", "x"], 1)

    def bad_hall(self, rows, part, number):
        with self.subTest(rows=rows):
            with self.assertRaises(BadHall) as caught:
                read("\n".join(rows))
            self.assertEqual((caught.exception.part, caught.exception.number), (part, number))

    def bad_cells(self, rows, number):
        with self.subTest(rows=rows):
            with self.assertRaises(BadCells) as caught:
                read("\n".join(rows))
            self.assertEqual(caught.exception.number, number)

    def test_what_is_no_hall(self):
        self.bad_hall(["hall 0 2", "at 0 0"], 0, 0)
        self.bad_hall(["hall 6 0", "at 0 0"], 0, 0)
        self.bad_hall(["hall 2 9", "at 0 0"], 1, 0)
        self.bad_hall(["hall 2 2", "wall 1 1 -", "wall 0 0 -", "at 0 0"], 2, 1)
        self.bad_hall(["hall 2 2", "wall 1 1 -", "wall 1 1 -", "at 0 0"], 2, 1)
        self.bad_hall(["hall 2 2", "wall 1 1 -", "door 1 1 e", "at 0 0"], 3, 0)
        self.bad_hall(["hall 2 2", "door 1 1 e", "door 1 2 w", "at 0 0"], 3, 1)
        self.bad_hall(["hall 2 2", "door 9 9 e", "at 0 0"], 3, 0)

    def test_one_too_many(self):
        edges = [f"wall {row} {column} -" for row in range(1, 5) for column in range(5)]
        edges += [f"wall {row} 1 |" for row in range(5)]
        self.assertEqual(len(read("\n".join(["hall 5 5"] + edges[:24] + ["at 0 0"]))[0][2]), 24)
        self.bad_hall(["hall 5 5"] + edges + ["at 0 0"], 2, 24)
        doors = [f"door 1 {column} e" for column in range(5)] + ["door 3 1 n", "door 3 2 n"]
        self.assertEqual(len(read("\n".join(["hall 5 5"] + doors[:6] + ["at 0 0"]))[0][3]), 6)
        self.bad_hall(["hall 5 5"] + doors + ["at 0 0"], 3, 6)
        self.bad_cells(["hall 5 5", "at 0 0", "at 0 1", "at 0 2", "at 0 3"], 3)

    def test_what_is_no_place_for_walkers(self):
        self.bad_cells(["hall 2 2"], 0)
        self.bad_cells(["hall 2 2", "door 1 1 e"], 0)
        self.bad_cells(["hall 2 2", "at 2 0"], 0)
        self.bad_cells(["hall 2 2", "at 0 0", "at 0 9"], 1)
        self.bad_cells(["hall 2 2", "at 0 0", "at 1 0", "at 0 0"], 2)

    def test_refused_in_turn(self):
        self.refused(["hall 0 0", "wall 9 9 -", "at 9 9", "x"], 3)
        self.refused(["hall 2 2", "at 9 9", "wall 1 1 -"], 2)
        self.bad_hall(["hall 2 2", "wall 9 9 -", "at 9 9"], 2, 0)
        self.bad_hall(["hall 0 2"], 0, 0)


if __name__ == "__main__":
    unittest.main()
