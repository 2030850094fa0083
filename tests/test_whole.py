"""[1] and [9] over the whole program: what is handed in stays, what is told is its asker's own, TooMany."""

import copy
import unittest

import oracle
from examples import TOO_MANY, TOO_MANY_CELLS, VALVE, VALVED
from hingehall.bench import Bench
from hingehall.errors import HallError, TooMany
from hingehall.notes import read, written
from hingehall.papers import lifted, paper, shows
from hingehall.steps import may, walk
from hingehall.turning import mirrored, turned
from hingehall.ways import far, gentlest, lost, oneway, reached, shortest, still

LOOKING = {
    "shortest": shortest, "gentlest": gentlest, "lost": lost, "paper": paper, "lifted": lifted,
    "lifted none": lambda hall, cells, goal: lifted(hall, cells, goal, most=0),
    "reached": lambda hall, cells, goal: reached(hall, cells), "far": lambda hall, cells, goal: far(hall, cells),
    "still": lambda hall, cells, goal: still(hall, cells), "oneway": lambda hall, cells, goal: oneway(hall, cells),
}


def benched(hall, cells):
    """All that a bench tells behind the steps that may be done at first, one after the other."""
    bench = Bench(hall, cells)
    bench.mark("a")
    for step in bench.may():
        bench.batch([step])
        bench.back()
    for step in bench.may()[:1]:
        bench.step(step)
    bench.mark("b")
    return [bench.standing(), bench.may(), bench.steps(), bench.told(), bench.marks(), bench.is_idle()]


def batched(hall, cells, steps, keep):
    bench = Bench(hall, cells)
    return bench.batch(steps, keep=keep)


NOT_LOOKING = {
    "walk": lambda hall, cells, goal: walk(hall, cells, ()), "may": lambda hall, cells, goal: may(hall, cells),
    "shows": lambda hall, cells, goal: shows(hall, cells, goal, []),
    "turned": lambda hall, cells, goal: turned(hall, cells),
    "mirrored": lambda hall, cells, goal: mirrored(hall, cells),
    "written": lambda hall, cells, goal: written(hall, cells),
    "read": lambda hall, cells, goal: read(written(hall, cells)),
    "Bench": lambda hall, cells, goal: benched(hall, cells),
}


def spoiled(told):
    """Change all lists in what is told."""
    if isinstance(told, (list, tuple)):
        for part in told:
            spoiled(part)
    if isinstance(told, list):
        told.append("more")
        told.reverse()


def answered(ask, *handed):
    """What is told, or how it is refused."""
    try:
        return ask(*handed)
    except HallError as error:
        return type(error).__name__, sorted(vars(error).items())


class Whole(unittest.TestCase):
    def same_again(self, ask, *handed):
        ahead = copy.deepcopy(handed)
        told = answered(ask, *handed)
        kept = copy.deepcopy(told)
        self.assertEqual(handed, ahead)
        spoiled(told)
        self.assertEqual(handed, ahead)
        self.assertEqual(answered(ask, *handed), kept)
        # Another thing asked between doesn't change what is told.
        answered(ask, (2, 2, (), ((1, 1, "e"),)), ((1, 1),), *handed[2:])
        self.assertEqual(answered(ask, *handed), kept)

    def test_asked_again(self):
        for place in oracle.made_places(12, 25, 200):
            for name, ask in (*LOOKING.items(), *NOT_LOOKING.items()):
                with self.subTest(asked=name, place=place):
                    self.same_again(ask, *place)

    def test_lists_that_are_handed_in(self):
        told = paper(VALVE, VALVED, ((1, 0),))
        for handed in (told, told[1:], told[::-1], told + [[]], [], [None], ["text", [1]]):
            self.same_again(shows, VALVE, VALVED, ((1, 0),), handed)
        for steps in ([(0, "w"), (0, "e")], [(0, "s"), [0, "n"]], [], [None, (0, "w")], ((0, "w"),)):
            for keep in (True, False):
                self.same_again(batched, VALVE, VALVED, steps, keep)

    def test_what_is_refused_stays_as_it_is(self):
        wrong = (
            ([2, 2, [], []], ((0, 0),), (None,)), ((2, 2, [(1, 1, "-")], ()), ((0, 0),), (None,)),
            ((2, 2, (), ([1, 1, "n"],)), ((0, 0),), (None,)), ((2, 2, (), ()), [(0, 0)], (None,)),
            ((2, 2, (), ()), ([0, 0],), (None,)), ((2, 2, (), ()), ((0, 0),), [None]),
            ((2, 2, (), ()), ((0, 0),), ([1, 1],)),
        )
        for place in wrong:
            for name, ask in (*LOOKING.items(), *NOT_LOOKING.items()):
                with self.subTest(asked=name, place=place):
                    self.same_again(ask, *place)

    def test_too_many(self):
        for hall, cells in ((TOO_MANY, TOO_MANY_CELLS), ((5, 5, (), ()), ((0, 0), (2, 2), (4, 4)))):
            for goal in (cells, (None,) * len(cells)):
                for name, ask in LOOKING.items():
                    with self.subTest(asked=name, goal=goal):
                        with self.assertRaises(TooMany):
                            ask(hall, cells, goal)
                for name, ask in NOT_LOOKING.items():
                    with self.subTest(asked=name, goal=goal):
                        ask(hall, cells, goal)


if __name__ == "__main__":
    unittest.main()
