"""Halls with which several of the tests begin."""

ROUND = (2, 2, (), ((1, 1, "n"),))
# From (0, 1) to (0, 0) the door swings for good: a wall keeps all from coming round behind it.
VALVE = (2, 2, ((1, 1, "|"),), ((1, 1, "n"),))
VALVED = ((0, 1),)
# Three rows: (0, 0), (1, 0), (2, 0) below each other, and (1, 1) beside the middle one. Door 0 never swings
# (its corner is at the hall's side); door 1 lies below (0, 0), and from below it swings onto door 0 only.
TRAP = (3, 2, ((1, 1, "-"), (2, 1, "-"), (2, 1, "|")), ((0, 1, "s"), (1, 1, "w")))
TRAPPED = ((2, 0), (0, 0))

# From the first standing one step leads on, for good: behind it exactly 4000 standings can be come to, so 4001 here.
TOO_MANY = (5, 5, ((0, 2, "|"), (1, 2, "-"), (1, 3, "-"), (3, 3, "|")),
            ((2, 1, "s"), (3, 0, "e"), (4, 1, "n"), (0, 3, "s"), (2, 2, "w"), (2, 1, "w")))
TOO_MANY_CELLS = ((2, 0),)
# Exactly 4000.
MANY = (5, 5, ((2, 2, "|"),), ((3, 4, "w"), (2, 1, "n"), (2, 3, "e"), (2, 2, "n")))
MANY_CELLS = ((2, 3),)
