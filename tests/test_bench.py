"""[11]: a bench goes there and back; batches and marks."""

import copy
import random
import unittest

import oracle
from examples import ROUND, TOO_MANY, TOO_MANY_CELLS, TRAP, TRAPPED, VALVE, VALVED
from hingehall.bench import Bench
from hingehall.errors import BadCells, BadHall, BadName, BadStep, Halted, NoPoint
from hingehall.steps import may, walk

START = ((0, 0),)
# In ROUND from START: pushing the door ahead of it all round, and the standings behind each step.
AROUND = [(0, "e"), (0, "s"), (0, "w"), (0, "n")]
STANDINGS = [(((0, 0),), "n"), (((0, 1),), "e"), (((1, 1),), "s"), (((1, 0),), "w"), (((0, 0),), "n")]
DONE = [((0, "e"), 0), ((0, "s"), 0), ((0, "w"), 0), ((0, "n"), 0)]

NO_STEPS = (
    None, True, False, 0, 1, "", "0e", "e", [], [0, "e"], (), (0,), ("e",), (0, "e", "e"), ("e", 0),
    (False, "e"), (True, "e"), (-1, "e"), (1, "e"), (3, "e"), ("0", "e"), (None, "e"), ((0,), "e"), ([0], "e"),
    (0, ""), (0, "es"), (0, "E"), (0, "x"), (0, "up"), (0, 0), (0, None), (0, True), (0, ["e"]), (0, ("e",)),
)
NO_NAMES = (
    None, True, False, 0, 1, (), ("a",), [], ["a"], "", "A", "aB", "a1", "1", "_", "a_b", "a b", " a", "a ", "a-b",
    "abcdefghi", "abcdefghijklmnopqrstuvwxyz", "a\n", "\n", "{", "`",
)


class Watching(list):
    """A list of steps that looks at the bench each time that one is taken from it."""

    def __init__(self, steps, bench):
        super().__init__(steps)
        self.bench = bench
        self.seen = []

    def __iter__(self):
        for step in list.__iter__(self):
            self.seen.append((self.bench.is_idle(), list(self.bench.told())))
            yield step


def all_of(bench):
    """All that a bench tells without a change, as it is told now."""
    told = bench.standing(), bench.may(), bench.steps(), bench.told(), bench.marks(), bench.is_idle()
    return copy.deepcopy(told)


class Benches(unittest.TestCase):
    def halted(self, bench, steps, number, done, **keep):
        with self.assertRaises(Halted) as caught:
            bench.batch(steps, **keep)
        self.assertEqual((caught.exception.number, caught.exception.done), (number, done))

    def bad_step(self, ask):
        with self.assertRaises(BadStep) as caught:
            ask()
        self.assertEqual(caught.exception.number, 0)


class Steps(Benches):
    def test_a_new_bench(self):
        self.assertEqual(all_of(Bench(ROUND, START)), (STANDINGS[0], [(0, "e"), (0, "s")], [], [], [], True))
        told = Bench(TRAP, TRAPPED)
        self.assertEqual(told.standing(), (TRAPPED, "sw"))
        self.assertEqual(told.may(), may(TRAP, TRAPPED))

    def test_hall_and_cells(self):
        with self.assertRaises(BadHall) as caught:
            Bench((2, 2, (), ((1, 1, "n"), (1, 1, "n"))), None)
        self.assertEqual((caught.exception.part, caught.exception.number), (3, 1))
        with self.assertRaises(BadCells) as caught:
            Bench(ROUND, ((0, 0), (0, 0)))
        self.assertEqual(caught.exception.number, 1)

    def test_a_step_tells_the_door_that_swings(self):
        bench = Bench(ROUND, START)
        self.assertEqual(bench.step((0, "e")), 0)
        self.assertIs(bench.step((0, "w")), None)
        self.assertIs(bench.step((0, "s")), None)
        self.assertIs(bench.step((0, "e")), None)
        self.assertEqual(bench.step((0, "n")), 0)
        bench = Bench((2, 2, (), ((1, 1, "n"), (1, 1, "e"))), ((0, 0), (0, 1)))
        self.assertEqual(bench.step((1, "s")), 1)
        self.assertEqual(bench.step((0, "e")), 0)

    def test_how_it_stands_behind_each(self):
        bench = Bench(ROUND, START)
        for number, step in enumerate(AROUND):
            self.assertEqual(bench.standing(), STANDINGS[number])
            self.assertEqual(bench.steps(), DONE[:number])
            bench.step(step)
        self.assertEqual(bench.standing(), STANDINGS[4])
        self.assertEqual(bench.steps(), DONE)
        self.assertEqual(bench.told(), [])
        self.assertIs(bench.is_idle(), True)

    def test_may_from_where_it_stands(self):
        bench = Bench(VALVE, VALVED)
        self.assertEqual(bench.may(), [(0, "s"), (0, "w")])
        bench.step((0, "s"))
        self.assertEqual(bench.may(), [(0, "n")])
        bench.step((0, "n"))
        bench.step((0, "w"))
        self.assertEqual(bench.may(), [(0, "e")])
        bench.back()
        self.assertEqual(bench.may(), [(0, "s"), (0, "w")])
        told = Bench((4, 4, (), ()), ((2, 2), (1, 1))).may()
        self.assertEqual(told, [(walker, way) for walker in (0, 1) for way in "ensw"])

    def test_what_is_no_step_and_what_cannot_be(self):
        bench = Bench(VALVE, VALVED)
        bench.step((0, "s"))
        ahead = all_of(bench)
        for step in NO_STEPS + ((0, "e"), (0, "s"), (0, "w")):
            with self.subTest(step=step):
                self.bad_step(lambda: bench.step(step))
                self.assertEqual(all_of(bench), ahead)
        bench.step((0, "n"))
        self.assertEqual(bench.steps(), [((0, "s"), None), ((0, "n"), None)])

    def test_a_bench_counts_no_standings(self):
        bench = Bench(TOO_MANY, TOO_MANY_CELLS)
        self.assertEqual(len(bench.may()), 1)
        bench.step(bench.may()[0])
        self.assertEqual(len(bench.steps()), 1)


class Back(Benches):
    def test_one_by_one(self):
        bench = Bench(ROUND, START)
        bench.batch(AROUND)
        for number in (3, 2, 1, 0):
            self.assertIs(bench.back(), True)
            self.assertEqual(bench.standing(), STANDINGS[number])
            self.assertEqual(bench.steps(), DONE[:number])
        for _ in range(2):
            self.assertIs(bench.back(), False)
            self.assertEqual(bench.standing(), STANDINGS[0])
            self.assertEqual(bench.steps(), [])

    def test_no_step_to_take_back(self):
        bench = Bench(ROUND, START)
        self.assertIs(bench.back(), False)
        self.assertEqual(all_of(bench), all_of(Bench(ROUND, START)))

    def test_the_door_swings_back_as_it_hung(self):
        bench = Bench(VALVE, VALVED)
        bench.step((0, "w"))
        self.assertEqual(bench.standing(), (((0, 0),), "w"))
        bench.back()
        self.assertEqual(bench.standing(), (((0, 1),), "n"))

    def test_on_from_where_it_went_back(self):
        bench = Bench(ROUND, START)
        bench.batch(AROUND[:2])
        bench.back()
        self.assertIs(bench.step((0, "w")), None)
        self.assertEqual(bench.standing(), (((0, 0),), "e"))
        self.assertEqual(bench.steps(), [((0, "e"), 0), ((0, "w"), None)])


class Batches(Benches):
    def test_what_each_told(self):
        bench = Bench(ROUND, START)
        self.assertEqual(bench.batch([(0, "e"), (0, "w"), (0, "s"), (0, "n")]), [0, None, None, None])
        self.assertEqual(bench.steps(), [((0, "e"), 0), ((0, "w"), None), ((0, "s"), None), ((0, "n"), None)])
        self.assertEqual(bench.standing(), (((0, 0),), "e"))
        self.assertEqual(bench.batch([(0, "e"), (0, "s")]), [None, 0])
        self.assertEqual(bench.standing(), (((1, 1),), "s"))
        self.assertEqual(len(bench.steps()), 6)

    def test_keep_does_nothing_where_all_can_be(self):
        for keep in (True, False):
            bench = Bench(ROUND, START)
            bench.step((0, "e"))
            self.assertEqual(bench.batch(AROUND[1:], keep=keep), [0, 0, 0])
            self.assertEqual(bench.standing(), STANDINGS[4])
            self.assertEqual(bench.steps(), DONE)
            self.assertEqual(bench.told(), ["begun", "ended"])
            self.assertIs(bench.is_idle(), True)

    def test_no_steps(self):
        bench = Bench(ROUND, START)
        self.assertEqual(bench.batch([]), [])
        self.assertEqual(bench.batch([], keep=False), [])
        self.assertEqual(bench.told(), ["begun", "ended", "begun", "ended"])
        self.assertEqual((bench.standing(), bench.steps()), (STANDINGS[0], []))

    def test_halted_with_those_ahead_kept(self):
        for keep in ({}, {"keep": True}):
            for number in range(5):
                bench = Bench(ROUND, START)
                # There is no second walker.
                self.halted(bench, AROUND[:number] + [(1, "e")] + AROUND[number:], number, number, **keep)
                self.assertEqual(bench.standing(), STANDINGS[number])
                self.assertEqual(bench.steps(), DONE[:number])
                self.assertEqual(bench.told(), ["begun", "ended"])
                self.assertIs(bench.is_idle(), True)

    def test_halted_with_none_kept(self):
        for number in range(5):
            bench = Bench(ROUND, START)
            self.halted(bench, AROUND[:number] + [(1, "e")] + AROUND[number:], number, 0, keep=False)
            self.assertEqual(bench.standing(), STANDINGS[0])
            self.assertEqual(bench.steps(), [])
            self.assertEqual(bench.told(), ["begun", "ended"])
            self.assertIs(bench.is_idle(), True)

    def test_steps_ahead_of_the_batch_stay(self):
        for keep, left in ((True, 3), (False, 2)):
            bench = Bench(ROUND, START)
            bench.batch(AROUND[:2])
            bench.mark("here")
            # From (1, 0) no step leads to the south: the hall ends there.
            self.halted(bench, [(0, "w"), (0, "s"), (0, "n")], 1, left - 2, keep=keep)
            self.assertEqual(bench.standing(), STANDINGS[left])
            self.assertEqual(bench.steps(), DONE[:left])
            self.assertEqual(bench.marks(), [("here", STANDINGS[2])])
            self.assertEqual(bench.told(), ["begun", "ended"] * 2)
            self.assertIs(bench.back(), True)
            self.assertEqual(bench.standing(), STANDINGS[left - 1])

    def test_a_step_that_cannot_be_done_any_more(self):
        # The door swings to the west once, for good.
        for keep, done in ((True, 2), (False, 0)):
            bench = Bench(VALVE, VALVED)
            self.halted(bench, [(0, "w"), (0, "e"), (0, "n")], 2, done, keep=keep)
            self.assertEqual(bench.standing(), (((0, 1),), "w" if keep else "n"))
            self.assertEqual(bench.steps(), [((0, "w"), 0), ((0, "e"), None)][:done])

    def test_what_is_no_step_halts(self):
        for step in NO_STEPS:
            for keep, done in ((True, 1), (False, 0)):
                with self.subTest(step=step, keep=keep):
                    bench = Bench(ROUND, START)
                    self.halted(bench, [(0, "e"), step, (0, "s")], 1, done, keep=keep)
                    self.assertEqual(bench.steps(), DONE[:done])
                    self.halted(bench, [step], 0, 0, keep=keep)
                    self.assertEqual(bench.steps(), DONE[:done])
                    self.assertEqual(bench.told(), ["begun", "ended"] * 2)

    def test_no_list(self):
        bench = Bench(ROUND, START)
        bench.batch([(0, "e")])
        ahead = all_of(bench)
        for steps in (None, True, False, 0, 1, "", "e", (), ((0, "s"),), (0, "s")):
            for keep in (True, False):
                with self.subTest(steps=steps):
                    self.bad_step(lambda: bench.batch(steps, keep=keep))
                    self.assertEqual(all_of(bench), ahead)

    def test_keep_is_handed_in_by_its_name_alone(self):
        bench = Bench(ROUND, START)
        with self.assertRaises(TypeError):
            bench.batch([(0, "e")], True)
        self.assertEqual(bench.steps(), [])

    def test_under_way(self):
        bench = Bench(ROUND, START)
        steps = Watching(AROUND[:2] + [None], bench)
        self.halted(bench, steps, 2, 2)
        self.assertEqual(steps.seen, [(False, ["begun"])] * 3)
        self.assertEqual((bench.is_idle(), bench.told()), (True, ["begun", "ended"]))
        steps = Watching(AROUND[2:], bench)
        bench.batch(steps)
        self.assertEqual(steps.seen, [(False, ["begun", "ended", "begun"])] * 2)
        self.assertEqual((bench.is_idle(), bench.told()), (True, ["begun", "ended"] * 2))

    def test_told_of_many(self):
        bench = Bench(ROUND, START)
        bench.batch([(0, "e")])
        bench.step((0, "s"))
        self.halted(bench, [None], 0, 0, keep=False)
        self.bad_step(lambda: bench.batch(None))
        bench.back()
        bench.batch([], keep=False)
        self.assertEqual(bench.told(), ["begun", "ended"] * 3)
        self.assertIs(bench.is_idle(), True)


class Marks(Benches):
    def test_go_stands_there_again(self):
        bench = Bench(ROUND, START)
        bench.mark("first")
        bench.batch(AROUND[:2])
        bench.mark("second")
        bench.batch(AROUND[2:])
        self.assertIs(bench.go("second"), None)
        self.assertEqual((bench.standing(), bench.steps()), (STANDINGS[2], DONE[:2]))
        self.assertEqual(bench.may(), [(0, "n"), (0, "w")])
        bench.go("first")
        self.assertEqual((bench.standing(), bench.steps()), (STANDINGS[0], []))
        self.assertIs(bench.back(), False)
        bench.go("second")
        self.assertEqual((bench.standing(), bench.steps()), (STANDINGS[2], DONE[:2]))
        self.assertIs(bench.back(), True)
        self.assertEqual((bench.standing(), bench.steps()), (STANDINGS[1], DONE[:1]))

    def test_a_mark_stays_when_steps_are_taken_back(self):
        bench = Bench(ROUND, START)
        bench.batch(AROUND[:3])
        self.assertIs(bench.mark("far"), None)
        for _ in range(3):
            bench.back()
        bench.step((0, "s"))
        self.assertEqual(bench.marks(), [("far", STANDINGS[3])])
        bench.go("far")
        self.assertEqual((bench.standing(), bench.steps()), (STANDINGS[3], DONE[:3]))

    def test_what_is_done_behind_a_go_is_not_the_marks(self):
        bench = Bench(ROUND, START)
        bench.step((0, "e"))
        bench.mark("a")
        bench.go("a")
        bench.step((0, "s"))
        bench.go("a")
        self.assertEqual((bench.standing(), bench.steps()), (STANDINGS[1], DONE[:1]))
        bench.back()
        self.assertEqual(bench.steps(), [])
        bench.go("a")
        self.assertEqual((bench.standing(), bench.steps()), (STANDINGS[1], DONE[:1]))

    def test_anew(self):
        bench = Bench(ROUND, START)
        bench.mark("a")
        bench.mark("b")
        bench.step((0, "e"))
        bench.mark("a")
        self.assertEqual(bench.marks(), [("a", STANDINGS[1]), ("b", STANDINGS[0])])
        bench.step((0, "s"))
        bench.go("a")
        self.assertEqual((bench.standing(), bench.steps()), (STANDINGS[1], DONE[:1]))
        bench.go("b")
        self.assertEqual((bench.standing(), bench.steps()), (STANDINGS[0], []))
        bench.mark("a")
        self.assertEqual(bench.marks(), [("a", STANDINGS[0]), ("b", STANDINGS[0])])

    def test_marks_rise_by_name(self):
        bench = Bench(ROUND, START)
        names = ["m", "b", "zz", "a", "ab", "z", "aa"]
        for name in names:
            bench.mark(name)
        self.assertEqual(bench.marks(), [(name, STANDINGS[0]) for name in ("a", "aa", "ab", "b", "m", "z", "zz")])

    def test_names(self):
        bench = Bench(ROUND, START)
        for name in ("a", "z", "abcdefgh", "zzzzzzzz", "ijklmnop", "qrstuvwx", "yz"):
            bench.mark(name)
            bench.go(name)
        self.assertEqual(len(bench.marks()), 7)

    def test_what_is_no_name(self):
        bench = Bench(ROUND, START)
        bench.mark("a")
        bench.step((0, "e"))
        ahead = all_of(bench)
        for name in NO_NAMES:
            with self.subTest(name=name):
                with self.assertRaises(BadName):
                    bench.mark(name)
                self.assertEqual(all_of(bench), ahead)

    def test_where_nothing_is_marked(self):
        bench = Bench(ROUND, START)
        bench.mark("a")
        bench.step((0, "e"))
        ahead = all_of(bench)
        for name in NO_NAMES + ("b", "aa", "abcdefgh"):
            with self.subTest(name=name):
                with self.assertRaises(NoPoint):
                    bench.go(name)
                self.assertEqual(all_of(bench), ahead)

    def test_batches_and_told_are_not_a_marks(self):
        bench = Bench(ROUND, START)
        bench.mark("a")
        bench.batch(AROUND)
        bench.go("a")
        self.assertEqual(bench.told(), ["begun", "ended"])
        self.assertEqual(bench.marks(), [("a", STANDINGS[0])])
        # A batch that none is kept of goes back to where it began, not to a mark.
        bench.step((0, "e"))
        self.halted(bench, [(0, "s"), (0, "e")], 1, 0, keep=False)
        self.assertEqual((bench.standing(), bench.steps()), (STANDINGS[1], DONE[:1]))


class OfItsOwn(Benches):
    def test_two_benches_of_one_hall(self):
        one, other = Bench(ROUND, START), Bench(ROUND, START)
        ahead = all_of(other)
        one.mark("a")
        one.batch(AROUND[:3])
        one.mark("b")
        one.back()
        self.assertEqual(all_of(other), ahead)
        with self.assertRaises(NoPoint):
            other.go("a")
        self.assertIs(other.back(), False)

    def test_lists_that_are_told_may_be_changed(self):
        bench = Bench(ROUND, START)
        bench.mark("a")
        told = bench.batch(AROUND[:2])
        bench.mark("b")
        ahead = all_of(bench)
        for ask in (bench.may, bench.steps, bench.told, bench.marks, lambda: told):
            ask().append("more")
            ask().clear()
            self.assertEqual(all_of(bench), ahead)
        bench.go("b")
        self.assertEqual(bench.steps(), DONE[:2])
        # A list told when it stood otherwise stays as it was told.
        kept = bench.steps()
        bench.back()
        self.assertEqual(kept, DONE[:2])

    def test_the_list_that_is_handed_in_may_be_changed(self):
        bench = Bench(ROUND, START)
        steps = list(AROUND[:2])
        bench.batch(steps)
        self.assertEqual(steps, AROUND[:2])
        steps.clear()
        self.assertEqual(bench.steps(), DONE[:2])
        halted = [(0, "w"), [0, "n"], (0, "n")]
        for keep in (False, True):
            self.halted(bench, halted, 1, int(keep), keep=keep)
            self.assertEqual(halted, [(0, "w"), [0, "n"], (0, "n")])

    def test_asked_again(self):
        bench = Bench(TRAP, TRAPPED)
        bench.batch([(0, "n"), (0, "e")])
        bench.mark("a")
        self.assertEqual(all_of(bench), all_of(bench))

    def test_the_kinds_of_what_is_told(self):
        bench = Bench(ROUND, START)
        self.assertIs(type(bench.step((0, "e"))), int)
        self.assertIs(type(bench.batch([(0, "w")])), list)
        bench.mark("a")
        self.assertEqual([type(told) for told in all_of(bench)], [tuple, list, list, list, list, bool])
        self.assertEqual([type(told) for told in bench.may() + bench.steps() + bench.marks()], [tuple] * 5)
        self.assertEqual([type(word) for word in bench.told()], [str, str])
        self.assertIs(type(bench.back()), bool)


class Compared(Benches):
    def test_long_runs(self):
        chance = random.Random(8)
        for _ in range(60):
            hall = oracle.made_hall(chance, 4, 6, 6)
            cells = oracle.made_cells(chance, hall, 3)
            with self.subTest(hall=hall, cells=cells):
                self.run_by_chance(chance, hall, cells)

    def run_by_chance(self, chance, hall, cells):
        bench, done, points, told = Bench(hall, cells), [], {}, []
        for _ in range(40):
            act = chance.choice(("step", "step", "back", "batch", "mark", "go"))
            if act == "step":
                steps = bench.may()
                if steps:
                    done.append(chance.choice(steps))
                    bench.step(done[-1])
            elif act == "back":
                self.assertIs(bench.back(), len(done) > 0)
                done = done[:-1]
            elif act == "batch":
                done = self.batch_by_chance(chance, hall, cells, bench, done)
                told += ["begun", "ended"]
            elif act == "mark":
                name = chance.choice("abc")
                bench.mark(name)
                points[name] = list(done)
            elif points:
                name = chance.choice(sorted(points))
                bench.go(name)
                done = list(points[name])
            self.same(bench, hall, cells, done, points, told)

    def batch_by_chance(self, chance, hall, cells, bench, done):
        steps = [(chance.randrange(len(cells)), chance.choice("ensw")) for _ in range(chance.randint(0, 4))]
        keep = chance.choice((True, False))
        many = len(steps)
        try:
            walked = walk(hall, cells, tuple(done + steps))[1]
        except BadStep as error:
            many = error.number - len(done)
        if many == len(steps):
            self.assertEqual(bench.batch(steps, keep=keep), [door for _, door in walked[len(done):]])
            return done + steps
        self.halted(bench, steps, many, many if keep else 0, keep=keep)
        return done + (steps[:many] if keep else [])

    def same(self, bench, hall, cells, done, points, told):
        standing, walked = walk(hall, cells, tuple(done))
        self.assertEqual(bench.standing(), standing)
        self.assertEqual(bench.steps(), [(step, door) for step, (_, door) in zip(done, walked)])
        now = hall[:3] + (tuple(door[:2] + (way,) for door, way in zip(hall[3], standing[1])),)
        self.assertEqual(bench.may(), may(now, standing[0]))
        self.assertEqual(bench.marks(), [(name, walk(hall, cells, tuple(points[name]))[0]) for name in sorted(points)])
        self.assertEqual(bench.told(), told)
        self.assertIs(bench.is_idle(), True)


if __name__ == "__main__":
    unittest.main()
