"""Ways to a goal, and what can be come to and what can't any more."""

from hingehall.halls import check_goal, check_start
from hingehall.reach import costs_to, explored, standings_met, steps_to_end
from hingehall.standings import first_standing


def best_way(hall, cells, goal, swing):
    """(swings, steps) of the first way of least cost to the goal, where a swing costs so much; or None."""
    check_start(hall, cells)
    check_goal(hall, cells, goal)
    moves, _ = explored(hall, cells)
    costs = costs_to(moves, standings_met(moves, goal), swing)
    first = first_standing(hall, cells)
    if first not in costs:
        return None
    return (costs[first][0], steps_to_end(moves, costs, first, swing))


def shortest(hall, cells, goal):
    """The fewest steps by which the goal is met, of several the first; None if it's never met."""
    # Where a swing costs nothing, the steps alone count.
    found = best_way(hall, cells, goal, 0)
    if found is None:
        return None
    return found[1]


def gentlest(hall, cells, goal):
    """(swings, steps): of the fewest swings, of these of the fewest steps, of several the first; or None."""
    return best_way(hall, cells, goal, 1)


def cells_of(moves, walker):
    """The cells in which a walker stands in one or more of the standings, rising."""
    return sorted({standing[0][walker] for standing in moves})


def reached(hall, cells):
    """For each walker the cells that it may ever stand in."""
    check_start(hall, cells)
    moves, _ = explored(hall, cells)
    return [cells_of(moves, walker) for walker in range(len(cells))]


def far(hall, cells):
    """(how many standings can be come to, how many steps the farthest of them wants at the least)."""
    check_start(hall, cells)
    moves, farthest = explored(hall, cells)
    return (len(moves), farthest)


def still(hall, cells):
    """The numbers of the doors that never swing, rising."""
    check_start(hall, cells)
    moves, _ = explored(hall, cells)
    swung = {move[2]: True for standing in moves for move in moves[standing]}
    return [door for door in range(len(hall[3])) if door not in swung]


def oneway(hall, cells):
    """The steps from the first standing behind which it can't be come to any more, rising."""
    check_start(hall, cells)
    moves, _ = explored(hall, cells)
    first = first_standing(hall, cells)
    costs = costs_to(moves, [first], 0)
    return [move[0] for move in moves[first] if move[1] not in costs]


def lost(hall, cells, goal):
    """All standings that can be come to and from which the goal can't, rising."""
    check_start(hall, cells)
    check_goal(hall, cells, goal)
    moves, _ = explored(hall, cells)
    costs = costs_to(moves, standings_met(moves, goal), 0)
    return sorted([standing for standing in moves if standing not in costs])
