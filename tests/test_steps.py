"""[5], [6]: which steps can be done, which door swings and how; walk and may."""

import unittest

from hingehall.errors import BadCells, BadHall, BadStep
from hingehall.steps import may, walk

# Four cells round a corner: an edge leads from the corner by each way.
#   (0, 0) n (0, 1)
#     w        e
#   (1, 0) s (1, 1)
STEPS_OVER = {"n": (((0, 0), "e"), ((0, 1), "w")), "e": (((0, 1), "s"), ((1, 1), "n")),
              "s": (((1, 1), "w"), ((1, 0), "e")), "w": (((1, 0), "n"), ((0, 0), "s"))}
NEXT = {"n": (-1, 0), "e": (0, 1), "s": (1, 0), "w": (0, -1)}


def gone(cell, way):
    return (cell[0] + NEXT[way][0], cell[1] + NEXT[way][1])


class Walking(unittest.TestCase):
    def refused(self, hall, cells, steps, number):
        with self.subTest(steps=steps):
            with self.assertRaises(BadStep) as caught:
                walk(hall, cells, steps)
            self.assertEqual(caught.exception.number, number)


class Steps(Walking):
    def test_the_four_ways(self):
        for way in "nesw":
            cell = gone((1, 1), way)
            self.assertEqual(walk((3, 3, (), ()), ((1, 1),), ((0, way),)), (((cell,), ""), [(cell, None)]))
        self.assertEqual(may((3, 3, (), ()), ((1, 1),)), [(0, "e"), (0, "n"), (0, "s"), (0, "w")])

    def test_no_step_leaves_the_hall(self):
        for cell, ways in (((0, 0), "nw"), ((0, 2), "ne"), ((1, 0), "sw"), ((1, 2), "es")):
            for way in ways:
                self.refused((2, 3, (), ()), (cell,), ((0, way),), 0)
            self.assertEqual(may((2, 3, (), ()), (cell,)), [(0, way) for way in "ensw" if way not in ways])

    def test_a_hall_of_one_cell(self):
        self.assertEqual(may((1, 1, (), ()), ((0, 0),)), [])
        for way in "nesw":
            self.refused((1, 1, (), ()), ((0, 0),), ((0, way),), 0)

    def test_a_hall_of_one_row_and_of_one_column(self):
        steps = tuple((0, way) for way in "eeeew")
        cells = [(0, 1), (0, 2), (0, 3), (0, 4), (0, 3)]
        told = walk((1, 5, (), ()), ((0, 0),), steps)
        self.assertEqual(told, ((((0, 3),), ""), [(cell, None) for cell in cells]))
        self.refused((1, 5, (), ()), ((0, 0),), steps[:4] + ((0, "e"),), 4)
        self.assertEqual(may((5, 1, (), ()), ((2, 0),)), [(0, "n"), (0, "s")])

    def test_a_hall_of_five_by_five(self):
        steps = tuple((0, way) for way in "sssseeee")
        self.assertEqual(walk((5, 5, (), ()), ((0, 0),), steps)[0], (((4, 4),), ""))
        self.assertEqual(may((5, 5, (), ()), ((4, 4),)), [(0, "n"), (0, "w")])

    def test_a_wall_lies_between(self):
        for wall, pair in (((1, 1, "-"), ((0, 1), (1, 1))), ((1, 1, "|"), ((1, 0), (1, 1)))):
            hall = (3, 3, (wall,), ())
            for cell, way in ((pair[0], "s" if wall[2] == "-" else "e"), (pair[1], "n" if wall[2] == "-" else "w")):
                self.refused(hall, (cell,), ((0, way),), 0)
                self.assertNotIn((0, way), may(hall, (cell,)))
                self.assertEqual(len(may(hall, (cell,))), 2 + (cell == (1, 1)))

    def test_a_step_into_a_walker(self):
        self.assertEqual(may((1, 2, (), ()), ((0, 0), (0, 1))), [])
        self.refused((1, 2, (), ()), ((0, 0), (0, 1)), ((0, "e"),), 0)
        self.refused((1, 2, (), ()), ((0, 0), (0, 1)), ((1, "w"),), 0)
        self.refused((1, 3, (), ()), ((0, 0), (0, 2)), ((1, "w"), (0, "e")), 1)
        told = walk((1, 3, (), ()), ((0, 0), (0, 1)), ((1, "e"), (0, "e")))
        self.assertEqual(told, ((((0, 1), (0, 2)), ""), [((0, 2), None), ((0, 1), None)]))

    def test_a_walker_stands_behind_a_door(self):
        hall = (2, 2, (), ((1, 1, "n"),))
        self.assertEqual(may(hall, ((0, 0), (0, 1))), [(0, "s"), (1, "s")])
        self.refused(hall, ((0, 0), (0, 1)), ((0, "e"),), 0)

    def test_three_walkers(self):
        hall = (2, 2, (), ())
        cells = ((0, 0), (0, 1), (1, 0))
        self.assertEqual(may(hall, cells), [(1, "s"), (2, "e")])
        told = walk(hall, cells, ((2, "e"), (0, "s"), (1, "w")))
        self.assertEqual(told, ((((1, 0), (0, 0), (1, 1)), ""), [((1, 1), None), ((1, 0), None), ((0, 0), None)]))

    def test_steps_rise_by_walker_and_then_by_way(self):
        told = may((4, 4, (), ()), ((2, 2), (1, 1)))
        self.assertEqual(told, [(walker, way) for walker in (0, 1) for way in "ensw"])
        self.assertEqual(told, sorted(told))

    def test_a_door_swings_by_the_way_of_the_step(self):
        for stands, sides in STEPS_OVER.items():
            for cell, way in sides:
                hall = (2, 2, (), ((1, 1, stands),))
                there = gone(cell, way)
                self.assertIn((0, way), may(hall, (cell,)))
                self.assertEqual(walk(hall, (cell,), ((0, way),)), (((there,), way), [(there, 0)]))

    def test_a_door_is_pushed_all_round(self):
        hall = (2, 2, (), ((1, 1, "n"),))
        steps = tuple((0, way) for way in "eswn")
        told = [((0, 1), 0), ((1, 1), 0), ((1, 0), 0), ((0, 0), 0)]
        self.assertEqual(walk(hall, ((0, 0),), steps), ((((0, 0),), "n"), told))

    def test_a_door_that_has_swung_away_is_not_there(self):
        hall = (2, 2, (), ((1, 1, "n"),))
        told = walk(hall, ((0, 0),), ((0, "e"), (0, "w"), (0, "e"), (0, "s")))
        self.assertEqual(told, ((((1, 1),), "s"), [((0, 1), 0), ((0, 0), None), ((0, 1), None), ((1, 1), 0)]))

    def test_a_door_hangs_where_it_hung(self):
        # The same edge, (1, 1, "|"), by either of its ends: the door swings about that end.
        for corner, stands, way, there in (((1, 1), "s", "e", "e"), ((2, 1), "n", "e", "e")):
            hall = (3, 3, (), (corner + (stands,),))
            (cells, ways), told = walk(hall, ((1, 0),), ((0, way),))
            self.assertEqual((cells, ways, told), (((1, 1),), there, [((1, 1), 0)]))
        above = (3, 3, (), ((1, 1, "s"),))
        below = (3, 3, (), ((2, 1, "n"),))
        # Behind the step it lies above the cell, or below it, and is what the next step goes through.
        self.assertEqual(walk(above, ((1, 0),), ((0, "e"), (0, "n")))[1], [((1, 1), 0), ((0, 1), 0)])
        self.assertEqual(walk(above, ((1, 0),), ((0, "e"), (0, "s")))[1], [((1, 1), 0), ((2, 1), None)])
        self.assertEqual(walk(below, ((1, 0),), ((0, "e"), (0, "s")))[1], [((1, 1), 0), ((2, 1), 0)])
        self.assertEqual(walk(below, ((1, 0),), ((0, "e"), (0, "n")))[1], [((1, 1), 0), ((0, 1), None)])

    def test_a_door_would_swing_onto_a_wall(self):
        walls = {"n": (0, 1, "|"), "e": (1, 1, "-"), "s": (1, 1, "|"), "w": (1, 0, "-")}
        for stands, sides in STEPS_OVER.items():
            for cell, way in sides:
                hall = (2, 2, (walls[way],), ((1, 1, stands),))
                self.refused(hall, (cell,), ((0, way),), 0)
                self.assertNotIn((0, way), may(hall, (cell,)))
                back = {"n": "s", "s": "n", "e": "w", "w": "e"}[way]
                self.assertIn((0, back), may(hall, (gone(cell, way),)))

    def test_a_door_would_swing_onto_another_door(self):
        for stands, sides in STEPS_OVER.items():
            for cell, way in sides:
                for other in ((1, 1, way), gone((1, 1), way) + ({"n": "s", "s": "n", "e": "w", "w": "e"}[way],)):
                    for doors in (((1, 1, stands), other), (other, (1, 1, stands))):
                        self.refused((2, 2, (), doors), (cell,), ((0, way),), 0)
                        self.assertNotIn((0, way), may((2, 2, (), doors), (cell,)))

    def test_another_door_counts_where_it_stands_now(self):
        hall = (2, 2, (), ((1, 1, "n"), (1, 1, "e")))
        self.refused(hall, ((0, 0), (0, 1)), ((0, "e"),), 0)
        told = walk(hall, ((0, 0), (0, 1)), ((1, "s"), (0, "e")))
        self.assertEqual(told, ((((0, 1), (1, 1)), "es"), [((1, 1), 1), ((0, 1), 0)]))
        # Pushed there by a step, a door is in the way where nothing was.
        hall = (2, 2, (), ((1, 1, "n"), (1, 1, "s")))
        self.assertIn((0, "e"), may(hall, ((0, 0), (1, 0))))
        self.refused(hall, ((0, 0), (1, 0)), ((1, "e"), (1, "n"), (0, "e")), 1)
        self.refused(hall, ((0, 0), (1, 1)), ((1, "w"), (0, "s")), 1)

    def test_a_door_would_swing_onto_no_edge(self):
        # Hung at the hall's side, a door finds nothing to swing onto but the side.
        for rows, columns, door, cell, way in (
            (2, 2, (0, 1, "s"), (0, 0), "e"), (2, 2, (0, 1, "s"), (0, 1), "w"),
            (2, 2, (2, 1, "n"), (1, 0), "e"), (2, 2, (2, 1, "n"), (1, 1), "w"),
            (2, 2, (1, 0, "e"), (0, 0), "s"), (2, 2, (1, 0, "e"), (1, 0), "n"),
            (2, 2, (1, 2, "w"), (0, 1), "s"), (2, 2, (1, 2, "w"), (1, 1), "n"),
            (1, 2, (0, 1, "s"), (0, 0), "e"), (1, 2, (1, 1, "n"), (0, 0), "e"),
            (2, 1, (1, 0, "e"), (0, 0), "s"), (2, 1, (1, 1, "w"), (1, 0), "n"),
        ):
            hall = (rows, columns, (), (door,))
            self.refused(hall, (cell,), ((0, way),), 0)
            self.assertNotIn((0, way), may(hall, (cell,)))

    def test_a_walker_is_not_in_a_doors_way(self):
        hall = (2, 2, (), ((1, 1, "n"),))
        told = walk(hall, ((0, 0), (1, 1)), ((0, "e"),))
        self.assertEqual(told, ((((0, 1), (1, 1)), "e"), [((0, 1), 0)]))

    def test_the_number_of_the_door_that_swings(self):
        hall = (3, 3, ((0, 1, "|"),), ((2, 2, "w"), (3, 1, "n"), (1, 1, "s")))
        told = walk(hall, ((1, 0),), ((0, "e"), (0, "s"), (0, "n")))
        self.assertEqual(told, ((((1, 1),), "sne"), [((1, 1), 2), ((2, 1), 0), ((1, 1), None)]))

    def test_no_steps(self):
        hall = (2, 2, (), ((1, 1, "n"), (1, 1, "w")))
        self.assertEqual(walk(hall, ((0, 0), (1, 1)), ()), ((((0, 0), (1, 1)), "nw"), []))


class BadSteps(Walking):
    def test_no_tuple_of_steps(self):
        for steps in (None, True, False, 0, 3, "", "e", [], [(0, "e")]):
            self.refused((3, 3, (), ()), ((1, 1),), steps, 0)

    def test_the_form_of_a_step(self):
        forms = (
            None, True, 0, 1, "", "0e", "e", [], [0, "e"], (), (0,), ("e",), (0, "e", "e"), ("e", 0),
            (False, "e"), (True, "e"), (-1, "e"), (2, "e"), (3, "e"), ("0", "e"), (None, "e"), ((0,), "e"), ([0], "e"),
            (0, ""), (0, "es"), (0, "E"), (0, "x"), (0, "up"), (0, 0), (0, None), (0, True), (0, ["e"]), (0, ("e",)),
        )
        cells = ((1, 1), (3, 3))
        for step in forms:
            self.refused((5, 5, (), ()), cells, (step,), 0)
            self.refused((5, 5, (), ()), cells, ((0, "e"), (1, "n"), step), 2)
        self.refused((5, 5, (), ()), ((1, 1),), ((1, "e"),), 0)
        self.refused((5, 5, (), ()), ((1, 1),), ((-1, "e"),), 0)

    def test_the_first_step_that_cannot_be(self):
        hall = (1, 3, (), ())
        self.refused(hall, ((0, 0),), ((0, "e"), (0, "e"), (0, "e"), None), 2)
        self.refused(hall, ((0, 0),), ((0, "e"), None, (0, "s")), 1)
        self.refused(hall, ((0, 0),), (None, (0, "s")), 0)

    def test_hall_and_cells_are_refused_ahead_of_the_steps(self):
        with self.assertRaises(BadHall):
            walk((1, 9, (), ()), None, None)
        with self.assertRaises(BadCells):
            walk((1, 3, (), ()), ((0, 3),), None)
        with self.assertRaises(BadCells):
            walk((1, 3, (), ()), (), ((0, "n"),))


class Told(unittest.TestCase):
    """[1]: what is told belongs to whoever asked, and is told again."""

    def test_walk_told_again(self):
        hall, cells = (2, 2, (), ((1, 1, "n"),)), ((0, 0),)
        steps = ((0, "e"), (0, "s"))
        first = walk(hall, cells, steps)
        kept = (first[0], list(first[1]))
        first[1].clear()
        self.assertEqual(walk(hall, cells, steps), kept)
        self.assertEqual((hall, cells, steps), ((2, 2, (), ((1, 1, "n"),)), ((0, 0),), ((0, "e"), (0, "s"))))

    def test_may_told_again(self):
        hall, cells = (3, 3, (), ()), ((1, 1),)
        first = may(hall, cells)
        first.reverse()
        first.append("more")
        self.assertEqual(may(hall, cells), [(0, "e"), (0, "n"), (0, "s"), (0, "w")])

    def test_the_kinds_of_what_is_told(self):
        told = walk((2, 2, (), ((1, 1, "n"),)), ((0, 0),), ((0, "e"), (0, "w")))
        self.assertIs(type(told), tuple)
        self.assertIs(type(told[0]), tuple)
        self.assertIs(type(told[0][0]), tuple)
        self.assertIs(type(told[0][1]), str)
        self.assertIs(type(told[1]), list)
        self.assertEqual([type(one) for one in told[1]], [tuple, tuple])
        self.assertIs(told[1][1][1], None)
        self.assertIs(type(told[1][0][1]), int)
        self.assertIs(type(may((2, 2, (), ()), ((0, 0),))), list)

    def test_what_is_refused_is_left_as_it_was(self):
        hall, cells, steps = [2, 2, [(1, 1, "-")], []], [[0, 0]], [[0, "e"]]
        for handed in ((hall, cells, steps), ((2, 2, (), ()), cells, steps), ((2, 2, (), ()), ((0, 0),), steps)):
            with self.assertRaises(ValueError):
                walk(*handed)
        self.assertEqual((hall, cells, steps), ([2, 2, [(1, 1, "-")], []], [[0, 0]], [[0, "e"]]))


if __name__ == "__main__":
    unittest.main()
