"""[10]: halls and their walkers' cells turned a quarter, the top to the right, and mirrored."""

import random
import unittest

import oracle
from examples import ROUND, TRAP, TRAPPED, VALVE, VALVED
from hingehall.papers import lifted, paper
from hingehall.steps import may, walk
from hingehall.turning import mirrored, turned
from hingehall.ways import far, gentlest, lost, oneway, reached, shortest, still

# Two rows, three columns: on each of its seven edges stands a wall of one of both kinds, or a door of one of the ways.
FULL = (2, 3, ((1, 0, "-"), (0, 1, "|"), (1, 2, "|")), ((1, 1, "e"), (1, 3, "w"), (0, 2, "s"), (2, 1, "n")))
FULL_CELLS = ((0, 0), (1, 2), (0, 2))
WAYS_TURNED = {"n": "e", "e": "s", "s": "w", "w": "n"}
WAYS_MIRRORED = {"n": "n", "e": "w", "s": "s", "w": "e"}

PLACES = (
    (FULL, FULL_CELLS), (ROUND, ((1, 0),)), (VALVE, VALVED), (TRAP, TRAPPED), ((1, 1, (), ()), ((0, 0),)),
    ((1, 5, ((0, 2, "|"),), ((0, 1, "s"), (1, 4, "n"))), ((0, 4), (0, 1))),
    ((5, 1, ((2, 0, "-"),), ((1, 0, "e"), (4, 1, "w"))), ((4, 0), (1, 0), (0, 0))),
    ((3, 5, ((1, 4, "-"), (2, 3, "|")), ((2, 2, "w"), (1, 2, "n"), (2, 4, "s"))), ((2, 4), (0, 1))),
)


class Turned(unittest.TestCase):
    def test_a_hall_with_all_kinds(self):
        hall = (3, 2, ((0, 1, "|"), (1, 1, "-"), (2, 0, "-")), ((1, 1, "s"), (3, 1, "n"), (2, 2, "w"), (1, 0, "e")))
        self.assertEqual(turned(FULL, FULL_CELLS), (hall, ((0, 1), (2, 0), (2, 1))))

    def test_the_top_comes_to_the_right(self):
        hall = (3, 3, (), ())
        for cell, there in (((0, 0), (0, 2)), ((0, 1), (1, 2)), ((0, 2), (2, 2)), ((1, 2), (2, 1)), ((2, 2), (2, 0)),
                            ((2, 1), (1, 0)), ((2, 0), (0, 0)), ((1, 0), (0, 1)), ((1, 1), (1, 1))):
            self.assertEqual(turned(hall, (cell,)), (hall, (there,)))

    def test_a_hall_of_one_row(self):
        hall, cells = (1, 4, ((0, 1, "|"),), ((0, 3, "s"), (1, 2, "n"))), ((0, 0), (0, 3))
        self.assertEqual(turned(hall, cells), ((4, 1, ((1, 0, "-"),), ((3, 1, "w"), (2, 0, "e"))), ((0, 0), (3, 0))))

    def test_a_hall_of_one_column(self):
        hall, cells = (4, 1, ((1, 0, "-"),), ((3, 0, "e"), (2, 1, "w"))), ((0, 0), (3, 0))
        self.assertEqual(turned(hall, cells), ((1, 4, ((0, 3, "|"),), ((0, 1, "s"), (1, 2, "n"))), ((0, 3), (0, 0))))

    def test_the_turn_in_which_they_were(self):
        walls = ((2, 1, "-"), (0, 1, "|"), (1, 0, "-"))
        hall, cells = turned((3, 2, walls, ((2, 1, "s"), (1, 1, "s"))), ((2, 1), (0, 1), (1, 0)))
        self.assertEqual(hall, (2, 3, ((1, 1, "|"), (1, 2, "-"), (0, 2, "|")), ((1, 1, "w"), (1, 2, "w"))))
        self.assertEqual(cells, ((1, 0), (1, 2), (0, 1)))

    def test_four_times(self):
        for hall, cells in PLACES:
            told, sizes = (hall, cells), []
            for _ in range(4):
                told = turned(*told)
                sizes.append(told[0][:2])
            self.assertEqual(told, (hall, cells))
            self.assertEqual(sizes, [hall[1::-1], hall[:2]] * 2)

    def test_twice_is_half_round(self):
        hall = (2, 3, ((1, 2, "-"), (1, 2, "|"), (0, 1, "|")), ((1, 2, "w"), (1, 0, "e"), (2, 1, "n"), (0, 2, "s")))
        self.assertEqual(turned(*turned(FULL, FULL_CELLS)), (hall, ((1, 2), (0, 0), (1, 0))))


class Mirrored(unittest.TestCase):
    def test_a_hall_with_all_kinds(self):
        hall = (2, 3, ((1, 2, "-"), (0, 2, "|"), (1, 1, "|")), ((1, 2, "w"), (1, 0, "e"), (0, 1, "s"), (2, 2, "n")))
        self.assertEqual(mirrored(FULL, FULL_CELLS), (hall, ((0, 2), (1, 0), (0, 0))))

    def test_left_and_right(self):
        hall = (2, 3, (), ())
        for cell, there in (((0, 0), (0, 2)), ((0, 1), (0, 1)), ((0, 2), (0, 0)), ((1, 0), (1, 2)), ((1, 1), (1, 1))):
            self.assertEqual(mirrored(hall, (cell,)), (hall, (there,)))

    def test_the_turn_in_which_they_were(self):
        walls = ((2, 1, "-"), (0, 1, "|"), (1, 0, "-"))
        hall, cells = mirrored((3, 2, walls, ((2, 1, "s"), (1, 1, "s"))), ((2, 1), (0, 1), (1, 0)))
        self.assertEqual(hall, (3, 2, ((2, 0, "-"), (0, 1, "|"), (1, 1, "-")), ((2, 1, "s"), (1, 1, "s"))))
        self.assertEqual(cells, ((2, 0), (0, 0), (1, 1)))

    def test_twice(self):
        for hall, cells in PLACES:
            told = mirrored(hall, cells)
            self.assertEqual(told[0][:2], hall[:2])
            self.assertEqual(mirrored(*told), (hall, cells))

    def test_turned_and_mirrored_twice(self):
        for hall, cells in PLACES:
            told = turned(*mirrored(*turned(*mirrored(hall, cells))))
            self.assertEqual(told, (hall, cells))


class AsLong(unittest.TestCase):
    def made(self):
        """(hall, cells, goal, the same turned, the same mirrored); a goal is turned as cells are."""
        for hall, cells, goal in oracle.made_places(5, 60, 300, most_side=4):
            told = []
            for change in (turned, mirrored):
                other, places = change(hall, cells)
                wanted = tuple(None if cell is None else change(hall, (cell,))[1][0] for cell in goal)
                told.append((other, places, wanted))
            yield (hall, cells, goal), told[0], told[1]

    def test_ways_are_as_long(self):
        for place, *others in self.made():
            short, gentle = shortest(*place), gentlest(*place)
            for other in others:
                with self.subTest(place=place, other=other):
                    if short is None:
                        self.assertIs(shortest(*other), None)
                        self.assertIs(gentlest(*other), None)
                        self.assertEqual(len(paper(*other)), len(paper(*place)))
                    else:
                        self.assertEqual(len(shortest(*other)), len(short))
                        self.assertEqual(gentlest(*other)[0], gentle[0])
                        self.assertEqual(len(gentlest(*other)[1]), len(gentle[1]))
                    self.assertEqual(lifted(*other), lifted(*place))
                    self.assertEqual(len(lost(*other)), len(lost(*place)))

    def test_what_can_be_come_to_is_as_much(self):
        for place, *others in self.made():
            for hall, cells, _ in others:
                with self.subTest(place=place, hall=hall):
                    self.assertEqual(far(hall, cells), far(*place[:2]))
                    self.assertEqual(still(hall, cells), still(*place[:2]))
                    self.assertEqual(len(oneway(hall, cells)), len(oneway(*place[:2])))
                    self.assertEqual([len(told) for told in reached(hall, cells)],
                                     [len(told) for told in reached(*place[:2])])

    def test_each_step_is_the_same_step(self):
        chance = random.Random(6)
        for _ in range(100):
            hall = oracle.made_hall(chance, 5, 12, 6)
            cells = oracle.made_cells(chance, hall, 3)
            done = ()
            for change, ways in ((turned, WAYS_TURNED), (mirrored, WAYS_MIRRORED)):
                other, places = change(hall, cells)
                self.assertEqual(may(other, places), sorted((one, ways[way]) for one, way in may(hall, cells)))
            for _ in range(20):
                (stand, signs), told = walk(hall, cells, done)
                now = hall[:3] + (tuple(door[:2] + (sign,) for door, sign in zip(hall[3], signs)),)
                for change, ways in ((turned, WAYS_TURNED), (mirrored, WAYS_MIRRORED)):
                    other = walk(*change(hall, cells), tuple((one, ways[way]) for one, way in done))
                    self.assertEqual(other[0], (change(now, stand)[1], "".join(ways[sign] for sign in signs)))
                    self.assertEqual([door for _, door in other[1]], [door for _, door in told])
                can = may(now, stand)
                if can:
                    done += (chance.choice(can),)

    def test_the_same_as_corners_turned(self):
        chance = random.Random(7)
        for _ in range(200):
            hall = oracle.made_hall(chance, 5, 24, 6)
            cells = oracle.made_cells(chance, hall, 3)
            with self.subTest(hall=hall, cells=cells):
                rows, columns = hall[:2]
                self.assertEqual(turned(hall, cells), oracle.moved_place(
                    hall, cells, columns, rows, lambda place: (place[1], rows - place[0])))
                self.assertEqual(mirrored(hall, cells), oracle.moved_place(
                    hall, cells, rows, columns, lambda place: (place[0], columns - place[1])))


class Told(unittest.TestCase):
    def test_the_kinds_of_what_is_told(self):
        for change in (turned, mirrored):
            told = change(FULL, FULL_CELLS)
            self.assertEqual([type(told), len(told), type(told[0]), len(told[0])], [tuple, 2, tuple, 4])
            self.assertEqual([type(part) for part in told[0]], [int, int, tuple, tuple])
            self.assertEqual([type(thing) for thing in told[0][2] + told[0][3] + told[1]], [tuple] * 10)

    def test_told_again(self):
        for change in (turned, mirrored):
            self.assertEqual(change(FULL, FULL_CELLS), change(FULL, FULL_CELLS))


if __name__ == "__main__":
    unittest.main()
