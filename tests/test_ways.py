"""[7], [8]: goals and the ways to them; what can be come to, and what can't any more."""

import unittest

from examples import MANY, MANY_CELLS, ROUND, TOO_MANY, TOO_MANY_CELLS, TRAP, TRAPPED, VALVE
from hingehall.errors import BadCells, BadGoal, BadHall, TooMany
from hingehall.papers import lifted, paper, shows
from hingehall.steps import may, walk
from hingehall.ways import far, gentlest, lost, oneway, reached, shortest, still

WITH_GOAL = {"shortest": shortest, "gentlest": gentlest, "lost": lost}
# Wherever a goal is handed in; what is handed in behind it can't be, either.
GOALED = {**WITH_GOAL, "paper": paper, "shows": lambda hall, cells, goal: shows(hall, cells, goal, None),
          "lifted": lambda hall, cells, goal: lifted(hall, cells, goal, most=None)}
WITHOUT = {"reached": reached, "far": far, "still": still, "oneway": oneway}


def steps(ways, walker=0):
    return tuple((walker, way) for way in ways)


def behind(hall, cells, done):
    """The hall and the cells as they stand behind steps."""
    (stand, ways), _ = walk(hall, cells, done)
    return hall[:3] + (tuple(door[:2] + (way,) for door, way in zip(hall[3], ways)),), stand


class Goals(unittest.TestCase):
    def refused(self, hall, cells, goal, number):
        for name, asked in GOALED.items():
            with self.subTest(asked=name, goal=goal):
                with self.assertRaises(BadGoal) as caught:
                    asked(hall, cells, goal)
                self.assertEqual(caught.exception.number, number)

    def test_no_tuple(self):
        for goal in (None, True, False, 0, 1, "", "00", [], [(0, 0)], [None]):
            self.refused((2, 3, (), ()), ((0, 0),), goal, 0)

    def test_the_form_of_a_goals_cell(self):
        forms = (True, False, 0, 1, "", "00", [], [0, 0], (), (0,), (0, 0, 0), (True, 0), (0, True), (False, 0),
                 (0, False), ("0", 0), (0, "0"), (None, 0), (0, None), (None, None), ([0], 0), (0, (0,)),
                 (-1, 0), (0, -1), (2, 0), (0, 3), (2, 3))
        for cell in forms:
            self.refused((2, 3, (), ()), ((0, 0),), (cell,), 0)
            self.refused((2, 3, (), ()), ((0, 0), (1, 1)), ((1, 2), cell), 1)
            self.refused((2, 3, (), ()), ((0, 0), (1, 1)), (None, cell), 1)

    def test_no_cell_twice(self):
        cells = ((0, 0), (0, 1), (0, 2))
        self.refused((2, 3, (), ()), cells, ((1, 1), (1, 1), None), 1)
        self.refused((2, 3, (), ()), cells, ((1, 1), None, (1, 1)), 2)
        self.refused((2, 3, (), ()), cells, (None, (0, 0), (0, 0)), 2)
        self.assertEqual(shortest((2, 3, (), ()), cells, (None, None, None)), ())

    def test_a_cell_lacks(self):
        self.refused((2, 3, (), ()), ((0, 0),), (), 0)
        self.refused((2, 3, (), ()), ((0, 0), (0, 1)), (), 0)
        self.refused((2, 3, (), ()), ((0, 0), (0, 1)), (None,), 1)
        self.refused((2, 3, (), ()), ((0, 0), (0, 1), (0, 2)), ((1, 1), None), 2)

    def test_a_cell_is_too_much(self):
        self.refused((2, 3, (), ()), ((0, 0),), ((1, 1), (0, 0)), 1)
        self.refused((2, 3, (), ()), ((0, 0),), (None, None), 1)
        self.refused((2, 3, (), ()), ((0, 0),), (None, None, 7), 1)
        self.refused((2, 3, (), ()), ((0, 0), (0, 1), (0, 2)), (None,) * 4, 3)

    def test_the_first_that_cannot_be(self):
        self.refused((2, 3, (), ()), ((0, 0), (0, 1), (0, 2)), (None, 7), 1)
        self.refused((2, 3, (), ()), ((0, 0),), (7, None), 0)
        self.refused((2, 3, (), ()), ((0, 0), (0, 1)), ((0, 0), (0, 0), (0, 0)), 1)
        self.refused((2, 3, (), ()), ((0, 0), (0, 1)), ((9, 9), (9, 9)), 0)

    def test_hall_and_cells_are_refused_ahead(self):
        for name, asked in GOALED.items():
            with self.subTest(asked=name):
                with self.assertRaises(BadHall):
                    asked((2, 3, ((0, 0, "-"),), ()), None, None)
                with self.assertRaises(BadCells):
                    asked((2, 3, (), ()), ((2, 0),), None)
                with self.assertRaises(BadCells):
                    asked((2, 3, (), ()), ((0, 0), (0, 0)), (7,))


class Shortest(unittest.TestCase):
    def test_of_several_the_first(self):
        self.assertEqual(shortest((2, 2, (), ()), ((0, 0),), ((1, 1),)), steps("es"))
        self.assertEqual(shortest((2, 2, (), ()), ((1, 1),), ((0, 0),)), steps("nw"))
        self.assertEqual(shortest((3, 3, (), ()), ((2, 0),), ((0, 2),)), steps("eenn"))
        self.assertEqual(shortest((3, 3, (), ()), ((0, 2),), ((2, 0),)), steps("ssww"))
        self.assertEqual(shortest((3, 3, ((1, 1, "|"),), ()), ((1, 0),), ((1, 1),)), steps("nes"))

    def test_of_several_walkers_the_first_goes_first(self):
        told = shortest((1, 5, (), ()), ((0, 0), (0, 2)), ((0, 1), (0, 3)))
        self.assertEqual(told, ((0, "e"), (1, "e")))
        told = shortest((1, 5, (), ()), ((0, 0), (0, 1)), ((0, 1), (0, 2)))
        self.assertEqual(told, ((1, "e"), (0, "e")))
        told = shortest((2, 2, (), ()), ((0, 0), (0, 1), (1, 1)), ((0, 1), (1, 1), (1, 0)))
        self.assertEqual(told, ((2, "w"), (1, "s"), (0, "e")))

    def test_none_where_it_does_not_matter(self):
        hall = (1, 3, (), ())
        self.assertEqual(shortest(hall, ((0, 0), (0, 2)), ((0, 1), None)), ((0, "e"),))
        self.assertEqual(shortest(hall, ((0, 0), (0, 2)), (None, (0, 1))), ((1, "w"),))
        # Another walker has to make room, though where it goes doesn't matter.
        self.assertEqual(shortest((2, 2, (), ()), ((0, 0), (0, 1)), ((0, 1), None)), ((1, "s"), (0, "e")))

    def test_the_first_standing_meets_the_goal(self):
        for goal in (((0, 0), (1, 1)), (None, (1, 1)), ((0, 0), None), (None, None)):
            self.assertEqual(shortest(ROUND, ((0, 0), (1, 1)), goal), ())
            self.assertEqual(gentlest(ROUND, ((0, 0), (1, 1)), goal), (0, ()))
            self.assertEqual(lost(ROUND, ((0, 0), (1, 1)), goal), [])
        self.assertEqual(shortest((1, 1, (), ()), ((0, 0),), ((0, 0),)), ())

    def test_a_goal_that_is_never_met(self):
        split = (2, 2, ((0, 1, "|"), (1, 1, "|")), ())
        for hall, cells, goal in (
            (split, ((0, 0),), ((0, 1),)),
            ((1, 3, (), ()), ((0, 0), (0, 1)), ((0, 2), (0, 1))),
            ((1, 2, (), ()), ((0, 0), (0, 1)), ((0, 1), None)),
            ((1, 2, (), ((0, 1, "s"),)), ((0, 0),), ((0, 1),)),
            (TRAP, TRAPPED, ((0, 0), (2, 0))),
        ):
            self.assertIs(shortest(hall, cells, goal), None)
            self.assertIs(gentlest(hall, cells, goal), None)

    def test_a_step_with_a_swing_is_a_step_like_another(self):
        for stands in "nesw":
            self.assertEqual(shortest((2, 2, (), ((1, 1, stands),)), ((0, 0),), ((1, 1),)), steps("es"))
            self.assertEqual(shortest((2, 2, (), ((1, 1, stands),)), ((1, 0),), ((0, 1),)), steps("en"))

    def test_no_step_from_which_the_goal_is_lost(self):
        hall, cells = TRAP[:3] + (((0, 1, "s"), (1, 1, "s")),), ((1, 1), (2, 0))
        self.assertEqual(may(hall, cells)[0], (0, "w"))
        self.assertIn((((1, 0), (2, 0)), "sw"), lost(hall, cells, (None, (0, 0))))
        self.assertEqual(shortest(hall, cells, (None, (0, 0))), steps("nn", 1))
        self.assertEqual(gentlest(hall, cells, (None, (0, 0))), (0, steps("nn", 1)))

    def test_by_a_door(self):
        self.assertEqual(shortest(ROUND, ((0, 0),), ((0, 1),)), steps("e"))
        self.assertEqual(shortest(VALVE, ((0, 1),), ((0, 0),)), steps("w"))
        self.assertEqual(shortest(VALVE, ((0, 1),), ((1, 0),)), None)


class Gentlest(unittest.TestCase):
    def test_fewest_swings_by_more_steps_than_the_fewest(self):
        self.assertEqual(gentlest(ROUND, ((0, 0),), ((0, 1),)), (0, steps("sen")))
        self.assertEqual(gentlest(ROUND, ((0, 1),), ((0, 0),)), (0, steps("swn")))
        self.assertEqual(gentlest((2, 2, (), ((1, 1, "e"),)), ((0, 0),), ((1, 1),)), (0, steps("se")))

    def test_of_the_fewest_swings_the_fewest_steps(self):
        hall = (2, 4, (), ((1, 1, "n"),))
        self.assertEqual(gentlest(hall, ((0, 0),), ((0, 3),)), (0, steps("seeen")))
        self.assertEqual(gentlest((3, 3, (), ()), ((2, 0),), ((0, 2),)), (0, steps("eenn")))

    def test_swings_that_have_to_be(self):
        self.assertEqual(gentlest(VALVE, ((0, 1),), ((0, 0),)), (1, steps("w")))
        doors = (2, 2, (), ((1, 1, "n"), (1, 1, "s")))
        self.assertEqual(gentlest(doors, ((0, 0),), ((0, 1),)), (1, steps("e")))
        self.assertEqual(gentlest(doors, ((1, 0),), ((1, 1),)), (1, steps("e")))

    def test_of_several_the_first(self):
        # Both ways push a door ahead at each of their two steps.
        hall = (2, 2, (), ((1, 1, "n"), (1, 1, "w")))
        self.assertEqual(gentlest(hall, ((0, 0),), ((1, 1),)), (2, steps("es")))
        self.assertEqual(gentlest((2, 2, (), ()), ((0, 0),), ((1, 1),)), (0, steps("es")))

    def test_no_number_of_steps_is_worth_a_swing(self):
        # One door at the end of two corridors that meet at the other end.
        hall = (2, 5, ((1, 1, "-"), (1, 2, "-"), (1, 3, "-")), ((1, 4, "e"),))
        self.assertEqual(shortest(hall, ((0, 4),), ((1, 4),)), steps("s"))
        self.assertEqual(gentlest(hall, ((0, 4),), ((1, 4),)), (0, steps("wwwwseeee")))

    def test_round_two_doors(self):
        hall = (3, 3, (), ((1, 1, "e"), (2, 2, "w")))
        self.assertEqual(shortest(hall, ((0, 1),), ((2, 1),)), steps("ss"))
        self.assertEqual(gentlest(hall, ((0, 1),), ((2, 1),)), (0, steps("essw")))


class Reach(unittest.TestCase):
    def test_reached(self):
        every = [(row, column) for row in range(2) for column in range(2)]
        self.assertEqual(reached(ROUND, ((1, 0),)), [every])
        self.assertEqual(reached((1, 3, (), ()), ((0, 2), (0, 0))), [[(0, 1), (0, 2)], [(0, 0), (0, 1)]])
        self.assertEqual(reached(VALVE, ((0, 1),)), [[(0, 0), (0, 1), (1, 1)]])
        self.assertEqual(reached((1, 1, (), ()), ((0, 0),)), [[(0, 0)]])
        split = (2, 2, ((0, 1, "|"), (1, 1, "|")), ())
        self.assertEqual(reached(split, ((1, 1), (0, 0))), [[(0, 1), (1, 1)], [(0, 0), (1, 0)]])
        told = reached(TRAP, TRAPPED)
        self.assertEqual(told, [[(1, 0), (1, 1), (2, 0)], [(0, 0), (1, 0), (2, 0)]])

    def test_far(self):
        self.assertEqual(far((1, 1, (), ()), ((0, 0),)), (1, 0))
        self.assertEqual(far((1, 5, (), ()), ((0, 0),)), (5, 4))
        self.assertEqual(far((1, 5, (), ()), ((0, 2),)), (5, 2))
        self.assertEqual(far((5, 5, (), ()), ((0, 0),)), (25, 8))
        self.assertEqual(far((1, 2, (), ()), ((0, 0), (0, 1))), (1, 0))
        self.assertEqual(far((1, 3, (), ()), ((0, 0), (0, 2))), (3, 1))
        # Each of the four cells, with the door by each of the four ways.
        self.assertEqual(far(ROUND, ((0, 0),))[0], 16)
        # Two cells with the door as it stands, three with it pushed on.
        self.assertEqual(far(VALVE, ((0, 1),)), (5, 3))

    def test_the_same_cells_with_other_ways_are_another_standing(self):
        told = far((2, 2, ((1, 1, "|"),), ()), ((0, 1),))
        self.assertEqual(told, (4, 2))
        # Three cells, two of them also with the door as it stood.
        self.assertEqual(far(VALVE, ((0, 0),)), (5, 3))

    def test_still(self):
        self.assertEqual(still(ROUND, ((0, 0),)), [])
        self.assertEqual(still((2, 2, (), ()), ((0, 0),)), [])
        self.assertEqual(still((2, 2, (), ((0, 1, "s"), (1, 1, "e"), (2, 1, "n"))), ((0, 0),)), [0, 1, 2])
        self.assertEqual(still(TRAP, TRAPPED), [0])
        # A door that could swing, but nobody comes there.
        split = (2, 4, ((0, 2, "|"), (1, 2, "|")), ((1, 3, "s"), (1, 1, "s")))
        self.assertEqual(still(split, ((0, 0),)), [0])
        self.assertEqual(still(split, ((0, 3),)), [1])
        self.assertEqual(still(split, ((0, 3), (0, 0))), [])

    def test_a_door_that_swings_only_later_is_not_still(self):
        hall = (2, 4, (), ((1, 3, "s"),))
        self.assertEqual(may(hall, ((0, 0),)), [(0, "e"), (0, "s")])
        self.assertEqual(still(hall, ((0, 0),)), [])

    def test_oneway(self):
        self.assertEqual(oneway(VALVE, ((0, 1),)), [(0, "w")])
        self.assertEqual(may(VALVE, ((0, 1),)), [(0, "s"), (0, "w")])
        self.assertEqual(oneway(ROUND, ((0, 0),)), [])
        self.assertEqual(oneway((1, 1, (), ()), ((0, 0),)), [])
        self.assertEqual(oneway((3, 3, (), ()), ((1, 1),)), [])

    def test_oneway_tells_steps_from_the_first_standing_alone(self):
        self.assertEqual(may(VALVE, ((1, 1),)), [(0, "n")])
        self.assertEqual(oneway(VALVE, ((1, 1),)), [])
        hall, cells = behind(VALVE, ((0, 1),), steps("w"))
        self.assertEqual(oneway(hall, cells), [])

    def test_oneway_rises(self):
        hall = (4, 2, ((1, 1, "|"), (2, 0, "-"), (2, 1, "-"), (3, 1, "|")), ((1, 1, "n"), (3, 1, "n")))
        self.assertEqual(oneway(hall, ((0, 1), (2, 1))), [(0, "w"), (1, "w")])
        self.assertEqual(oneway(hall, ((2, 1), (0, 1))), [(0, "w"), (1, "w")])
        self.assertEqual(oneway(hall, ((3, 1), (0, 1))), [(1, "w")])

    def test_lost(self):
        shut = [(((1, 0), (2, 0)), "sw"), (((1, 1), (1, 0)), "sw"), (((1, 1), (2, 0)), "sw")]
        self.assertEqual(lost(TRAP, TRAPPED, ((1, 0), (0, 0))), shut)
        self.assertEqual(lost(TRAP, TRAPPED, (None, (0, 0))), shut)
        self.assertEqual(lost(TRAP, TRAPPED, (None, (1, 0))), [])
        self.assertEqual(lost(ROUND, ((0, 0),), ((1, 1),)), [])
        # From the other standings the goal can be come to: from a lost one it can't.
        hall, cells = behind(TRAP, TRAPPED, ((0, "n"), (0, "e"), (1, "s"), (1, "s"), (0, "w")))
        self.assertIs(shortest(hall, cells, (None, (0, 0))), None)
        self.assertEqual(lost(hall, cells, (None, (0, 0))), shut)

    def test_lost_tells_all_where_the_goal_is_never_met(self):
        every = [(((0, column),), "") for column in range(3)]
        self.assertEqual(lost((2, 3, tuple((1, column, "-") for column in range(3)), ()), ((0, 1),), ((1, 1),)), every)
        every = [((0, 0), "w"), ((0, 1), "n"), ((0, 1), "w"), ((1, 1), "n"), ((1, 1), "w")]
        self.assertEqual(lost(VALVE, ((0, 1),), ((1, 0),)), [((cell,), ways) for cell, ways in every])


class TooManyStandings(unittest.TestCase):
    def test_exactly_4000(self):
        self.assertEqual(far(MANY, MANY_CELLS)[0], 4000)
        self.assertEqual(len(reached(MANY, MANY_CELLS)[0]), 25)
        self.assertEqual(still(MANY, MANY_CELLS), [])
        self.assertEqual(shortest(MANY, MANY_CELLS, (None,)), ())
        self.assertEqual(gentlest(MANY, MANY_CELLS, ((2, 3),)), (0, ()))
        self.assertEqual(lost(MANY, MANY_CELLS, ((0, 0),)), [])
        self.assertEqual(oneway(MANY, MANY_CELLS), [])

    def test_one_more(self):
        for name, asked in WITHOUT.items():
            with self.subTest(asked=name):
                with self.assertRaises(TooMany):
                    asked(TOO_MANY, TOO_MANY_CELLS)
        for name, asked in WITH_GOAL.items():
            # Even where the goal is met at once, or one step away.
            for goal in ((None,), TOO_MANY_CELLS, ((3, 0),), ((4, 4),)):
                with self.subTest(asked=name, goal=goal):
                    with self.assertRaises(TooMany):
                        asked(TOO_MANY, TOO_MANY_CELLS, goal)
        self.assertEqual(len(may(TOO_MANY, TOO_MANY_CELLS)), 1)
        hall, cells = behind(TOO_MANY, TOO_MANY_CELLS, tuple(may(TOO_MANY, TOO_MANY_CELLS)))
        self.assertEqual(far(hall, cells)[0], 4000)

    def test_many_more(self):
        hall, cells = (5, 5, (), ()), ((0, 0), (2, 2), (4, 4))
        for asked in WITHOUT.values():
            with self.assertRaises(TooMany):
                asked(hall, cells)
        for asked in WITH_GOAL.values():
            with self.assertRaises(TooMany):
                asked(hall, cells, cells)

    def test_too_many_is_refused_behind_all_else(self):
        for asked in GOALED.values():
            with self.assertRaises(BadGoal):
                asked(TOO_MANY, TOO_MANY_CELLS, ((5, 0),))
            with self.assertRaises(BadGoal):
                asked(TOO_MANY, TOO_MANY_CELLS, ())
            with self.assertRaises(BadCells):
                asked(TOO_MANY, ((2, 0), (2, 0)), ((0, 0),))
        for asked in WITHOUT.values():
            with self.assertRaises(BadCells):
                asked(TOO_MANY, ((2, 0), (2, 0)))

    def test_walk_and_may_look_at_no_more_than_they_tell(self):
        hall, cells = (5, 5, (), ()), ((0, 0), (2, 2), (4, 4))
        self.assertEqual(len(may(hall, cells)), 8)
        self.assertEqual(walk(hall, cells, ((2, "n"),)), ((((0, 0), (2, 2), (3, 4)), ""), [((3, 4), None)]))


class Told(unittest.TestCase):
    """[1]: what is told belongs to whoever asked, and is told again."""

    def test_lists_may_be_changed(self):
        asked = (
            lambda: reached(TRAP, TRAPPED),
            lambda: still(TRAP, TRAPPED),
            lambda: oneway(VALVE, ((0, 1),)),
            lambda: lost(TRAP, TRAPPED, (None, (0, 0))),
        )
        for ask in asked:
            first, kept = ask(), ask()
            self.assertIs(type(first), list)
            self.assertEqual(first, kept)
            for part in first:
                if isinstance(part, list):
                    part.append("more")
            first.append("more")
            self.assertEqual(ask(), kept)

    def test_each_walkers_list_is_its_own(self):
        told = reached((2, 2, (), ()), ((0, 0), (1, 1)))
        self.assertEqual(told[0], told[1])
        told[0].clear()
        self.assertEqual(len(told[1]), 4)

    def test_the_same_is_told_again(self):
        for _ in range(2):
            self.assertEqual(far(VALVE, ((0, 1),)), (5, 3))
            self.assertEqual(shortest(ROUND, ((0, 0),), ((0, 1),)), steps("e"))
            self.assertEqual(gentlest(ROUND, ((0, 0),), ((0, 1),)), (0, steps("sen")))

    def test_the_kinds_of_what_is_told(self):
        self.assertIs(type(shortest(ROUND, ((0, 0),), ((0, 1),))), tuple)
        self.assertIs(type(shortest(ROUND, ((0, 0),), ((0, 0),))), tuple)
        told = gentlest(ROUND, ((0, 0),), ((0, 1),))
        self.assertEqual([type(told), type(told[0]), type(told[1])], [tuple, int, tuple])
        self.assertIs(type(far(ROUND, ((0, 0),))), tuple)
        self.assertEqual([type(part) for part in reached(ROUND, ((0, 0),))], [list])
        self.assertEqual([type(one) for one in lost(TRAP, TRAPPED, (None, (0, 0)))], [tuple] * 3)
        self.assertEqual([type(one) for one in oneway(VALVE, ((0, 1),))], [tuple])


if __name__ == "__main__":
    unittest.main()
