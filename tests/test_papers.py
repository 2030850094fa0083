"""[9]: papers that show that a goal is never met, and the fewest doors without which it is."""

import itertools
import unittest

from examples import MANY, MANY_CELLS, TOO_MANY, TOO_MANY_CELLS, TRAP, TRAPPED, VALVE, VALVED
from hingehall.errors import BadCells, BadCount, BadGoal, BadHall, BadPaper, Meets, TooMany
from hingehall.papers import lifted, paper, shows
from hingehall.ways import far, shortest

# In VALVE nobody comes to (1, 0): the door swings to the west once, for good.
VALVE_PAPER = [(((0, 0),), "w"), (((0, 1),), "n"), (((0, 1),), "w"), (((1, 1),), "n"), (((1, 1),), "w")]
# Three columns of two cells, with walls between them.
COLUMNS = (2, 3, ((0, 1, "|"), (1, 1, "|"), (0, 2, "|"), (1, 2, "|")), ())
# The last column is shut off: three walkers stand in the other twenty cells in 6840 ways.
SHUT = (5, 5, tuple((row, 4, "|") for row in range(5)), ())
SHUT_CELLS = ((0, 0), (2, 2), (4, 3))
SHUT_GOAL = ((0, 4), None, None)
# A door hung at the hall's side never swings. These six lie behind each other on the one way to (1, 1).
SNAKE = (2, 4, ((1, 0, "-"), (1, 1, "-"), (1, 2, "-")),
         ((0, 1, "s"), (0, 2, "s"), (0, 3, "s"), (1, 4, "w"), (2, 3, "n"), (2, 2, "n")))

# A column of five cells, its lowest behind a door; another door leads from it to all of the other columns.
LOW, OUT = (4, 0, "e"), (0, 1, "s")
COLUMN_WALLS = tuple((row, 1, "|") for row in range(1, 5))
COLUMN_CELLS = ((0, 0), (1, 0), (2, 0))


class Paper(unittest.TestCase):
    def test_all_standings_rising(self):
        self.assertEqual(paper(VALVE, VALVED, ((1, 0),)), VALVE_PAPER)
        self.assertEqual(paper(COLUMNS, ((1, 1),), ((0, 0),)), [(((0, 1),), ""), (((1, 1),), "")])
        self.assertEqual(paper((1, 2, (), ()), ((0, 1), (0, 0)), ((0, 0), None)), [(((0, 1), (0, 0)), "")])

    def test_of_several_walkers(self):
        told = paper((1, 3, (), ()), ((0, 2), (0, 0)), ((0, 0), (0, 2)))
        self.assertEqual(told, [(((0, 1), (0, 0)), ""), (((0, 2), (0, 0)), ""), (((0, 2), (0, 1)), "")])
        # The two in their corridor never pass each other.
        self.assertEqual(paper((1, 3, (), ()), ((0, 2), (0, 0)), ((0, 0), None)), told)
        self.assertEqual(paper((1, 3, (), ()), ((0, 2), (0, 0)), (None, (0, 2))), told)

    def test_a_goal_that_is_met(self):
        for hall, cells, goal in (
            (VALVE, VALVED, ((0, 1),)), (VALVE, VALVED, ((0, 0),)), (VALVE, VALVED, ((1, 1),)),
            (VALVE, VALVED, (None,)), (COLUMNS, ((1, 1),), ((0, 1),)), ((1, 1, (), ()), ((0, 0),), ((0, 0),)),
            ((1, 3, (), ()), ((0, 2), (0, 0)), ((0, 1), (0, 0))), ((1, 3, (), ()), ((0, 2), (0, 0)), (None, (0, 1))),
        ):
            with self.subTest(hall=hall, goal=goal):
                with self.assertRaises(Meets):
                    paper(hall, cells, goal)

    def test_many(self):
        told = paper(TRAP, TRAPPED, ((0, 0), (2, 0)))
        self.assertEqual(len(told), far(TRAP, TRAPPED)[0])
        self.assertEqual(told, sorted(told))
        self.assertTrue(shows(TRAP, TRAPPED, ((0, 0), (2, 0)), told))

    def test_too_many_ahead_of_meets_and_behind_all_else(self):
        for goal in (TOO_MANY_CELLS, (None,), ((0, 0),)):
            with self.assertRaises(TooMany):
                paper(TOO_MANY, TOO_MANY_CELLS, goal)
        with self.assertRaises(TooMany):
            paper(SHUT, SHUT_CELLS, SHUT_GOAL)
        with self.assertRaises(BadGoal):
            paper(TOO_MANY, TOO_MANY_CELLS, ())
        with self.assertRaises(Meets):
            paper(MANY, MANY_CELLS, ((0, 0),))


class Shows(unittest.TestCase):
    def test_what_paper_tells(self):
        self.assertIs(shows(VALVE, VALVED, ((1, 0),), VALVE_PAPER), True)
        self.assertIs(shows(COLUMNS, ((1, 1),), ((0, 0),), [(((0, 1),), ""), (((1, 1),), "")]), True)

    def test_no_standing_may_lack(self):
        for number in range(len(VALVE_PAPER)):
            less = VALVE_PAPER[:number] + VALVE_PAPER[number + 1:]
            self.assertIs(shows(VALVE, VALVED, ((1, 0),), less), False)
        self.assertIs(shows(VALVE, VALVED, ((1, 0),), []), False)

    def test_the_first_standing_may_not_lack(self):
        # What is left, of another column, no step leaves: but nobody stands in it at first.
        told = [(((0, 1),), ""), (((1, 1),), "")]
        self.assertIs(shows(COLUMNS, ((0, 0),), ((0, 2),), told), False)
        self.assertIs(shows(COLUMNS, ((0, 1),), ((0, 2),), told), True)
        # The door as it stands at first counts, too.
        self.assertIs(shows(VALVE, VALVED, ((1, 0),), [(((0, 0),), "w"), (((0, 1),), "w"), (((1, 1),), "w")]), False)
        self.assertIs(shows(VALVE[:3] + (((1, 1, "w"),),), VALVED, ((1, 0),),
                            [(((0, 0),), "w"), (((0, 1),), "w"), (((1, 1),), "w")]), True)

    def test_more_than_can_be_come_to(self):
        two = [(((0, 0),), ""), (((0, 1),), ""), (((1, 0),), ""), (((1, 1),), "")]
        self.assertIs(shows(COLUMNS, ((0, 0),), ((0, 2),), two), True)
        # From the one that is more a step leads to another that lacks.
        self.assertIs(shows(COLUMNS, ((0, 0),), ((0, 2),), two[:3]), False)
        # By one that is more the goal is met, though nobody comes there.
        self.assertIs(shows(COLUMNS, ((0, 0),), ((1, 1),), two), False)
        self.assertIs(shows(COLUMNS, ((0, 0),), ((1, 1),), [two[0], two[2]]), True)

    def test_none_by_which_the_goal_is_met(self):
        corridor = [(((0, 1), (0, 0)), ""), (((0, 2), (0, 0)), ""), (((0, 2), (0, 1)), "")]
        hall, cells = (1, 3, (), ()), ((0, 2), (0, 0))
        for goal, asked in (
            ((None, None), False), ((None, (0, 2)), True), (((0, 1), None), False), (((0, 1), (0, 2)), True),
            (((0, 2), (0, 1)), False), (((0, 1), (0, 0)), False), (((0, 0), (0, 1)), True),
        ):
            with self.subTest(goal=goal):
                self.assertIs(shows(hall, cells, goal, corridor), asked)

    def test_the_goal_may_be_met_at_once(self):
        self.assertIs(shows((1, 1, (), ()), ((0, 0),), ((0, 0),), [(((0, 0),), "")]), False)
        self.assertIs(shows((1, 1, (), ()), ((0, 0),), ((0, 0),), []), False)
        self.assertIs(shows(COLUMNS, ((0, 0),), ((0, 0),), [(((0, 0),), ""), (((1, 0),), "")]), False)

    def test_steps_of_all_walkers_count(self):
        hall, cells = (1, 4, ((0, 2, "|"),), ()), ((0, 0), (0, 2))
        every = [(((0, one), (0, other)), "") for one in (0, 1) for other in (2, 3)]
        self.assertIs(shows(hall, cells, ((0, 2), None), every), True)
        for number in range(4):
            self.assertIs(shows(hall, cells, ((0, 2), None), every[:number] + every[number + 1:]), False)

    def test_too_many_is_not_refused(self):
        left = [(row, column) for row in range(5) for column in range(4)]
        told = [(cells, "") for cells in sorted(itertools.permutations(left, 3))]
        self.assertEqual(len(told), 6840)
        self.assertIs(shows(SHUT, SHUT_CELLS, SHUT_GOAL, told), True)
        self.assertIs(shows(SHUT, SHUT_CELLS, SHUT_GOAL, told[:-1]), False)
        self.assertIs(shows(SHUT, SHUT_CELLS, SHUT_GOAL, []), False)
        self.assertIs(shows(TOO_MANY, TOO_MANY_CELLS, (None,), []), False)


class BadPapers(unittest.TestCase):
    def refused(self, hall, cells, told, number):
        with self.subTest(told=told):
            with self.assertRaises(BadPaper) as caught:
                shows(hall, cells, (None,) * len(cells), told)
            self.assertEqual(caught.exception.number, number)

    def test_no_list(self):
        for told in (None, True, False, 0, 1, 7, "", "text", (), (VALVE_PAPER[0],), tuple(VALVE_PAPER)):
            self.refused(VALVE, VALVED, told, 0)

    def test_the_form_of_a_standing(self):
        cell = ((1, 1),)
        forms = (
            None, True, False, 0, 1, "", "w", [], [cell, "w"], (), (cell,), ("w",), (cell, "w", "w"), ("w", cell),
            (None, "w"), (True, "w"), (0, "w"), ("", "w"), ([(1, 1)], "w"), ((1, 1), "w"), ([[1, 1]], "w"),
            (cell, None), (cell, True), (cell, 0), (cell, ("w",)), (cell, ["w"]), (cell, []), (cell, ()),
        )
        for form in forms:
            self.at_each_place(form)

    def at_each_place(self, thing):
        """Refused as the first, a middle, and the last of what would else be a paper."""
        for number in (0, 2, 5):
            self.refused(VALVE, VALVED, VALVE_PAPER[:number] + [thing] + VALVE_PAPER[number:], number)

    def test_the_walkers_of_a_standing(self):
        cells = ((), ((1, 1), (0, 0)), (None,), (True,), (0,), ("11",), ([1, 1],), ((1,),), ((1, 1, 1),), ((),),
                 ((2, 0),), ((0, 2),), ((-1, 0),), ((0, -1),), ((True, 1),), ((1, False),), ((None, 1),), ((1, "1"),),
                 (([1], 1),))
        for places in cells:
            self.at_each_place((places, "w"))

    def test_as_many_walkers_as_handed_in(self):
        hall = (2, 2, (), ())
        self.refused(hall, ((0, 0), (0, 1)), [(((0, 0),), "")], 0)
        self.refused(hall, ((0, 0), (0, 1)), [(((0, 0), (0, 1), (1, 0)), "")], 0)
        self.refused(hall, ((0, 0), (0, 1)), [(((0, 0), (0, 1)), ""), (((0, 0), (0, 1), (1, 0)), "")], 1)
        self.refused(hall, ((0, 0), (0, 1), (1, 1)), [(((0, 0), (0, 1)), "")], 0)

    def test_no_two_walkers_in_one_cell(self):
        hall = (2, 2, (), ())
        self.refused(hall, ((0, 0), (0, 1)), [(((1, 1), (1, 1)), "")], 0)
        three = ((0, 0), (0, 1), (1, 1))
        self.refused(hall, three, [(((0, 1), (0, 0), (1, 1)), ""), (((1, 1), (0, 1), (1, 1)), "")], 1)
        self.refused(hall, three, [(((1, 0), (0, 1), (0, 1)), "")], 0)

    def test_the_doors_of_a_standing(self):
        for ways in ("", "ww", "wn", "x", "W", " ", "-", "N"):
            self.at_each_place((((1, 1),), ways))
        self.refused(COLUMNS, ((0, 0),), [(((0, 0),), "n")], 0)
        self.refused((2, 2, (), ((1, 1, "n"), (1, 1, "s"))), ((0, 0),), [(((0, 0),), "n")], 0)
        self.refused((2, 2, (), ((1, 1, "n"), (1, 1, "s"))), ((0, 0),), [(((0, 0),), "nsw")], 0)

    def test_no_door_where_a_wall_is(self):
        # In VALVE the wall lies from the door's corner to the south.
        self.at_each_place((((1, 1),), "s"))
        self.refused((2, 2, ((1, 0, "-"),), ((1, 1, "n"),)), ((0, 0),), [(((0, 0),), "w")], 0)
        self.assertIs(shows(VALVE, VALVED, (None,), [(((1, 1),), "e"), (((1, 1),), "w")]), False)

    def test_no_door_on_what_is_no_edge(self):
        hall = (2, 2, (), ((0, 1, "s"), (2, 1, "n"), (1, 0, "e"), (1, 2, "w")))
        stand = ((0, 0),)
        self.assertIs(shows(hall, stand, (None,), [(stand, "snew")]), False)
        for ways in ("nnew", "enew", "wnew", "ssew", "seew", "swew", "snnw", "snsw", "snww", "snen", "snes", "snee"):
            self.refused(hall, stand, [(stand, ways)], 0)

    def test_no_two_doors_on_one_edge(self):
        doors = (2, 2, (), ((1, 1, "n"), (1, 1, "s"), (1, 1, "e")))
        stand = ((0, 0),)
        for ways in ("nne", "nsn", "nss", "nee", "eee"):
            self.refused(doors, stand, [(stand, ways)], 0)
        # Hung at unlike corners, they come upon one edge from both of its ends.
        ends = (3, 3, (), ((1, 1, "n"), (2, 1, "e")))
        self.refused(ends, stand, [(stand, "sn")], 0)
        self.refused((3, 3, (), ((1, 1, "n"), (1, 2, "e"))), stand, [(stand, "ew")], 0)
        self.assertIs(shows(ends, stand, (None,), [(stand, "ns"), (stand, "se"), (stand, "wn")]), False)

    def test_standings_rise(self):
        self.refused(VALVE, VALVED, VALVE_PAPER[::-1], 1)
        for number in range(5):
            self.refused(VALVE, VALVED, VALVE_PAPER[:number + 1] + VALVE_PAPER[number:], number + 1)
        for number in range(4):
            told = VALVE_PAPER[:number] + [VALVE_PAPER[number + 1], VALVE_PAPER[number]] + VALVE_PAPER[number + 2:]
            self.refused(VALVE, VALVED, told, number + 1)
        # By their cells first, then by the doors' ways; each is held against the one ahead alone.
        self.refused(VALVE, VALVED, [(((0, 0),), "w"), (((0, 0),), "n")], 1)
        self.refused(VALVE, VALVED, [(((0, 1),), "n"), (((0, 0),), "w")], 1)
        self.refused(VALVE, VALVED, [(((0, 1),), "n"), (((1, 1),), "n"), (((1, 0),), "w")], 2)

    def test_the_first_that_cannot_be(self):
        self.refused(VALVE, VALVED, [None, VALVE_PAPER[0], None], 0)
        self.refused(VALVE, VALVED, [VALVE_PAPER[1], VALVE_PAPER[0], None], 1)
        self.refused(VALVE, VALVED, [VALVE_PAPER[1], None, VALVE_PAPER[0]], 1)
        self.refused(VALVE, VALVED, VALVE_PAPER + [None], 5)

    def test_a_bad_paper_is_refused_though_it_shows_nothing(self):
        # It lacks the first standing, the goal is met by its first one: what is refused comes ahead of that.
        with self.assertRaises(BadPaper) as caught:
            shows(VALVE, VALVED, ((0, 0),), [VALVE_PAPER[0], VALVE_PAPER[0]])
        self.assertEqual(caught.exception.number, 1)

    def test_hall_cells_and_goal_are_refused_ahead(self):
        with self.assertRaises(BadHall):
            shows((0, 2, (), ()), None, None, None)
        with self.assertRaises(BadCells):
            shows(VALVE, ((0, 2),), None, None)
        with self.assertRaises(BadGoal) as caught:
            shows(VALVE, VALVED, (None, None), None)
        self.assertEqual(caught.exception.number, 1)
        with self.assertRaises(BadPaper):
            shows(TOO_MANY, TOO_MANY_CELLS, (None,), None)


class Lifted(unittest.TestCase):
    def test_no_door_has_to_be(self):
        self.assertEqual(lifted(VALVE, VALVED, ((0, 0),)), ())
        self.assertEqual(lifted((1, 1, (), ()), ((0, 0),), ((0, 0),)), ())
        self.assertEqual(lifted(SNAKE, ((0, 0),), (None,)), ())
        self.assertEqual(lifted(SNAKE, ((0, 0),), (None,), most=0), ())

    def test_one_door(self):
        hall = (1, 2, (), ((0, 1, "s"),))
        self.assertEqual(lifted(hall, ((0, 0),), ((0, 1),)), (0,))
        self.assertEqual(lifted(hall, ((0, 0),), ((0, 1),), most=1), (0,))
        self.assertIs(lifted(hall, ((0, 0),), ((0, 1),), most=0), None)
        self.assertEqual(lifted(VALVE, VALVED, ((1, 0),)), (0,))
        # The door in the middle of three, and the last one.
        hall = (2, 4, ((1, 0, "-"), (1, 1, "-"), (1, 2, "-"), (1, 3, "-")), ((2, 1, "n"), (0, 1, "s"), (0, 3, "s")))
        self.assertEqual(lifted(hall, ((0, 0),), ((0, 1),)), (1,))
        self.assertEqual(lifted(hall, ((0, 2),), ((0, 3),)), (2,))
        self.assertEqual(lifted(hall, ((0, 3),), ((0, 0),)), (1, 2))
        self.assertEqual(lifted(hall, ((0, 3), (1, 0)), ((0, 0), (1, 1))), (0, 1, 2))

    def test_of_several_the_first(self):
        # Either door lets the walker out of its corner.
        doors = ((0, 1, "s"), (1, 0, "e"))
        for hung in (doors, doors[::-1]):
            self.assertEqual(lifted((2, 2, (), hung), ((0, 0),), ((1, 1),)), (0,))
        # Doors 0 and 2 lie on one way, 1 and 2 on the other, with 2 on both.
        hall = (2, 3, ((1, 1, "-"), (1, 2, "|")), ((0, 1, "s"), (1, 0, "e"), (0, 2, "s")))
        self.assertEqual(lifted(hall, ((0, 0),), ((0, 2),)), (0, 2))
        ring = (2, 2, (), ((0, 1, "s"), (1, 0, "e"), (2, 1, "n"), (1, 2, "w")))
        self.assertEqual(lifted(ring, ((0, 0),), ((1, 1),)), (0, 3))
        ring = (2, 2, (), ((0, 1, "s"), (1, 0, "e"), (1, 2, "w"), (2, 1, "n")))
        self.assertEqual(lifted(ring, ((0, 0),), ((1, 1),)), (0, 2))
        ring = (2, 2, (), ((1, 0, "e"), (2, 1, "n"), (0, 1, "s"), (1, 2, "w")))
        self.assertEqual(lifted(ring, ((0, 0),), ((1, 1),)), (0, 1))

    def test_fewer_doors_ahead_of_lower_numbers(self):
        hall = (2, 2, (), ((0, 1, "s"), (1, 2, "w"), (1, 0, "e")))
        self.assertEqual(lifted(hall, ((0, 0),), ((1, 1),)), (2,))
        self.assertEqual(lifted(hall, ((0, 0),), ((0, 1),)), (0,))

    def test_up_to_six(self):
        self.assertEqual(lifted(SNAKE, ((0, 0),), ((1, 1),)), (0, 1, 2, 3, 4, 5))
        self.assertEqual(lifted(SNAKE, ((0, 0),), ((1, 1),), most=6), (0, 1, 2, 3, 4, 5))
        for most in range(6):
            self.assertIs(lifted(SNAKE, ((0, 0),), ((1, 1),), most=most), None)
        self.assertEqual(lifted(SNAKE, ((0, 0),), ((1, 2),), most=5), (0, 1, 2, 3, 4))
        self.assertEqual(lifted(SNAKE, ((0, 1),), ((1, 3),), most=3), (1, 2, 3))
        self.assertIs(lifted(SNAKE, ((0, 1),), ((1, 3),), most=2), None)

    def test_most_may_be_more_than_there_are_doors(self):
        self.assertEqual(lifted((1, 3, (), ((0, 2, "s"),)), ((0, 0),), ((0, 2),), most=4), (0,))
        self.assertIs(lifted(COLUMNS, ((0, 0),), ((0, 1),), most=6), None)

    def test_walls_stay(self):
        self.assertIs(lifted((2, 2, ((0, 1, "|"), (1, 1, "|")), ((1, 1, "w"),)), ((0, 0),), ((0, 1),)), None)
        self.assertIs(lifted((1, 2, (), ()), ((0, 0), (0, 1)), ((0, 1), (0, 0))), None)

    def test_without_it_another_may_swing(self):
        # Door 1 would swing onto door 0; there is no other way through the wall.
        hall = (2, 2, ((1, 1, "|"),), ((1, 1, "e"), (1, 1, "n")))
        self.assertEqual(lifted(hall, ((0, 0),), ((0, 1),)), (0,))
        self.assertEqual(lifted(hall[:3] + (hall[3][::-1],), ((0, 0),), ((0, 1),)), (0,))
        self.assertEqual(lifted(hall, ((0, 0),), ((0, 1),), most=1), (0,))

    def test_most_is_a_number_from_0_to_6(self):
        hall = (1, 2, (), ((0, 1, "s"),))
        for most in (-1, 7, 8, 100, -100, True, False, None, "", "3", (), (1,), [], [1]):
            for goal in (((0, 0),), ((0, 1),)):
                with self.subTest(most=most, goal=goal):
                    with self.assertRaises(BadCount):
                        lifted(hall, ((0, 0),), goal, most=most)

    def test_most_is_handed_in_by_its_name_alone(self):
        with self.assertRaises(TypeError):
            lifted((1, 2, (), ()), ((0, 0),), ((0, 1),), 3)

    def test_refused_in_turn(self):
        with self.assertRaises(BadHall):
            lifted((0, 2, (), ()), None, None, most=7)
        with self.assertRaises(BadCells):
            lifted(TOO_MANY, ((5, 5),), None, most=7)
        with self.assertRaises(BadGoal):
            lifted(TOO_MANY, TOO_MANY_CELLS, None, most=7)
        with self.assertRaises(BadCount):
            lifted(TOO_MANY, TOO_MANY_CELLS, (None,), most=7)
        for most in (0, 6):
            # Even where the goal is met at once.
            with self.assertRaises(TooMany):
                lifted(TOO_MANY, TOO_MANY_CELLS, (None,), most=most)

    def test_too_many_by_the_first_hall_that_has_too_many(self):
        low_first = (5, 5, COLUMN_WALLS, (LOW, OUT))
        out_first = (5, 5, COLUMN_WALLS, (OUT, LOW))
        down = (None, None, (4, 0))
        # It has no look at the hall without the door that leads out.
        self.assertEqual(lifted(low_first, COLUMN_CELLS, down), (0,))
        # Without that door alone there are too many, whatever another door would do.
        with self.assertRaises(TooMany):
            lifted(out_first, COLUMN_CELLS, down)
        self.assertIs(lifted(out_first, COLUMN_CELLS, down, most=0), None)
        self.assertEqual(lifted(out_first, COLUMN_CELLS, (None, None, (3, 0))), ())
        with self.assertRaises(TooMany):
            lifted(low_first, COLUMN_CELLS, ((0, 1), None, None))


class Together(unittest.TestCase):
    def test_what_paper_tells_shows(self):
        for hall, cells, goal in (
            (VALVE, VALVED, ((1, 0),)), (COLUMNS, ((0, 0), (1, 2)), ((0, 1), None)), (SNAKE, ((0, 3),), ((1, 3),)),
            (TRAP, TRAPPED, ((0, 0), None)), ((1, 5, (), ()), ((0, 0), (0, 2), (0, 4)), ((0, 2), (0, 1), None)),
        ):
            with self.subTest(hall=hall, goal=goal):
                self.assertIs(shows(hall, cells, goal, paper(hall, cells, goal)), True)
                self.assertIs(shortest(hall, cells, goal), None)

    def test_the_kinds_of_what_is_told(self):
        told = paper(VALVE, VALVED, ((1, 0),))
        self.assertIs(type(told), list)
        self.assertEqual([type(one) for one in told], [tuple] * 5)
        self.assertEqual([type(told[0][0]), type(told[0][1])], [tuple, str])
        self.assertIs(type(lifted(VALVE, VALVED, ((0, 1),))), tuple)
        self.assertEqual([type(number) for number in lifted(VALVE, VALVED, ((1, 0),))], [int])

    def test_what_is_handed_in_and_what_is_told_are_each_their_own(self):
        told = paper(VALVE, VALVED, ((1, 0),))
        self.assertIs(shows(VALVE, VALVED, ((1, 0),), told), True)
        self.assertEqual(told, VALVE_PAPER)
        told.clear()
        self.assertEqual(paper(VALVE, VALVED, ((1, 0),)), VALVE_PAPER)
        self.assertIs(shows(VALVE, VALVED, ((1, 0),), told), False)
        refused = [VALVE_PAPER[0], [[[1, 1]], "w"]]
        with self.assertRaises(BadPaper):
            shows(VALVE, VALVED, ((1, 0),), refused)
        self.assertEqual(refused, [VALVE_PAPER[0], [[[1, 1]], "w"]])

    def test_told_again(self):
        for _ in range(2):
            self.assertEqual(paper(VALVE, VALVED, ((1, 0),)), VALVE_PAPER)
            self.assertIs(shows(VALVE, VALVED, ((1, 0),), VALVE_PAPER), True)
            self.assertEqual(lifted(SNAKE, ((0, 1),), ((1, 3),)), (1, 2, 3))


if __name__ == "__main__":
    unittest.main()
