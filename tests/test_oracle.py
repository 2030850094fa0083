"""[5] to [8] over many made halls: what is told is what a second, slow model finds."""

import random
import unittest

import oracle

from hingehall.errors import BadStep
from hingehall.steps import may, walk
from hingehall.ways import far, gentlest, lost, oneway, reached, shortest, still


class Compared(unittest.TestCase):
    def compare(self, hall, cells, goal):
        model = oracle.Model(hall, cells)
        self.assertEqual(may(hall, cells), sorted(model.moves(model.first)))
        self.assertEqual(reached(hall, cells), model.reached())
        self.assertEqual(far(hall, cells), model.far())
        self.assertEqual(still(hall, cells), model.still())
        self.assertEqual(oneway(hall, cells), model.oneway())
        self.assertEqual(lost(hall, cells, goal), model.lost(goal))
        self.assertEqual(shortest(hall, cells, goal), model.shortest(goal))
        self.assertEqual(gentlest(hall, cells, goal), model.gentlest(goal))
        return model

    def test_small_halls(self):
        for hall, cells, goal in oracle.made_places(1, 150, 300):
            with self.subTest(hall=hall, cells=cells, goal=goal):
                self.compare(hall, cells, goal)

    def test_halls_with_many_doors(self):
        for hall, cells, goal in oracle.made_places(2, 60, 700, most_side=4, most_walls=6, most_doors=6):
            with self.subTest(hall=hall, cells=cells, goal=goal):
                self.compare(hall, cells, goal)

    def test_great_halls_with_one_walker(self):
        places = oracle.made_places(3, 25, 700, most_side=5, most_walls=24, most_doors=6, most_walkers=1)
        for hall, cells, goal in places:
            with self.subTest(hall=hall, cells=cells, goal=goal):
                self.compare(hall, cells, goal)

    def test_long_walks(self):
        chance = random.Random(4)
        for _ in range(150):
            hall = oracle.made_hall(chance, 5, 12, 6)
            cells = oracle.made_cells(chance, hall, 3)
            with self.subTest(hall=hall, cells=cells):
                self.walk_by_chance(chance, hall, cells)

    def walk_by_chance(self, chance, hall, cells):
        """Steps that can be done, then, where there is one, a step that can't."""
        model = oracle.Model(hall, cells)
        standing, done, told = model.first, (), []
        for _ in range(chance.randint(0, 30)):
            moves = sorted(model.moves(standing).items())
            if moves:
                step, (standing, door) = chance.choice(moves)
                done += (step,)
                told.append((standing[0][step[0]], door))
        self.assertEqual(walk(hall, cells, done), (standing, told))
        for walker in range(len(cells)):
            for way in "ensw":
                if (walker, way) not in model.moves(standing):
                    with self.assertRaises(BadStep) as caught:
                        walk(hall, cells, done + ((walker, way),))
                    self.assertEqual(caught.exception.number, len(done))


if __name__ == "__main__":
    unittest.main()
