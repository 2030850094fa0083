"""[5] to [9] over many made halls: what is told is what a second, slow model finds."""

import random
import unittest

import oracle

from hingehall.errors import BadStep, Meets, TooMany
from hingehall.papers import lifted, paper, shows
from hingehall.steps import may, walk
from hingehall.ways import far, gentlest, lost, oneway, reached, shortest, still


class Compared(unittest.TestCase):
    def compare(self, hall, cells, goal):
        model = oracle.Model(hall, cells)
        self.assertEqual(may(hall, cells), sorted(model.moves(model.first)))
        self.assertEqual(reached(hall, cells), model.reached())
        self.assertEqual(far(hall, cells), model.far())
        self.assertEqual(still(hall, cells), model.still())
        self.assertEqual(oneway(hall, cells), model.oneway())
        self.assertEqual(lost(hall, cells, goal), model.lost(goal))
        self.assertEqual(shortest(hall, cells, goal), model.shortest(goal))
        self.assertEqual(gentlest(hall, cells, goal), model.gentlest(goal))
        self.compare_papers(hall, cells, goal, model)

    def compare_papers(self, hall, cells, goal, model):
        told = sorted(model.come_to(model.first))
        if any(oracle.meets(standing, goal) for standing in told):
            with self.assertRaises(Meets):
                paper(hall, cells, goal)
            self.assertIs(shows(hall, cells, goal, told), False)
        else:
            self.assertEqual(paper(hall, cells, goal), told)
            self.assertIs(shows(hall, cells, goal, told), True)
            self.assertIs(shows(hall, cells, goal, told[1:]), False)

    def test_doors_lifted(self):
        for hall, cells, goal in oracle.made_places(10, 100, 700, most_side=3, most_walls=6, most_doors=6):
            asked = [oracle.lifted(hall, cells, goal, most, 4000) for most in (0, 1, 6)]
            for most, told in zip((0, 1, 6), asked):
                with self.subTest(hall=hall, cells=cells, goal=goal, most=most):
                    if told == "too many":
                        with self.assertRaises(TooMany):
                            lifted(hall, cells, goal, most=most)
                    else:
                        self.assertEqual(lifted(hall, cells, goal, most=most), told)

    def test_what_is_told_holds_together(self):
        """A told way, walked, meets the goal; the gentlest swings no more, the shortest is no longer."""
        for hall, cells, goal in oracle.made_places(11, 150, 500, most_side=4, most_walls=8, most_doors=6):
            with self.subTest(hall=hall, cells=cells, goal=goal):
                short, gentle = shortest(hall, cells, goal), gentlest(hall, cells, goal)
                if short is None:
                    self.assertIs(gentle, None)
                    self.assertIs(shows(hall, cells, goal, paper(hall, cells, goal)), True)
                    self.assertEqual(lost(hall, cells, goal), paper(hall, cells, goal))
                    self.assertNotEqual(lifted(hall, cells, goal), ())
                else:
                    self.holds_together(hall, cells, goal, short, gentle)

    def holds_together(self, hall, cells, goal, short, gentle):
        swings = []
        for way in (short, gentle[1]):
            standing, told = walk(hall, cells, way)
            self.assertTrue(oracle.meets(standing, goal))
            swings.append(len([door for _, door in told if door is not None]))
        self.assertEqual(swings[1], gentle[0])
        self.assertLessEqual(swings[1], swings[0])
        self.assertLessEqual(len(short), len(gentle[1]))
        self.assertEqual(lifted(hall, cells, goal), ())

    def test_small_halls(self):
        for hall, cells, goal in oracle.made_places(1, 150, 300):
            with self.subTest(hall=hall, cells=cells, goal=goal):
                self.compare(hall, cells, goal)

    def test_halls_with_many_doors(self):
        for hall, cells, goal in oracle.made_places(2, 60, 700, most_side=4, most_walls=6, most_doors=6):
            with self.subTest(hall=hall, cells=cells, goal=goal):
                self.compare(hall, cells, goal)

    def test_great_halls_with_one_walker(self):
        places = oracle.made_places(3, 25, 700, most_side=5, most_walls=24, most_doors=6, most_walkers=1)
        for hall, cells, goal in places:
            with self.subTest(hall=hall, cells=cells, goal=goal):
                self.compare(hall, cells, goal)

    def test_long_walks(self):
        chance = random.Random(4)
        for _ in range(150):
            hall = oracle.made_hall(chance, 5, 12, 6)
            cells = oracle.made_cells(chance, hall, 3)
            with self.subTest(hall=hall, cells=cells):
                self.walk_by_chance(chance, hall, cells)

    def walk_by_chance(self, chance, hall, cells):
        """Steps that can be done, then, where there is one, a step that can't."""
        model = oracle.Model(hall, cells)
        standing, done, told = model.first, (), []
        for _ in range(chance.randint(0, 30)):
            moves = sorted(model.moves(standing).items())
            if moves:
                step, (standing, door) = chance.choice(moves)
                done += (step,)
                told.append((standing[0][step[0]], door))
        self.assertEqual(walk(hall, cells, done), (standing, told))
        for walker in range(len(cells)):
            for way in "ensw":
                if (walker, way) not in model.moves(standing):
                    with self.assertRaises(BadStep) as caught:
                        walk(hall, cells, done + ((walker, way),))
                    self.assertEqual(caught.exception.number, len(done))


if __name__ == "__main__":
    unittest.main()
