"""All standings that can be come to, and what it costs to come from one to another."""

from heapq import heappop, heappush

from hingehall.errors import TooMany
from hingehall.standings import first_standing, moves_from

MOST_STANDINGS = 4000


def explored(hall, cells):
    """(the moves from each standing that can be come to, how many steps the farthest wants at the least)."""
    layer = [first_standing(hall, cells)]
    seen = {layer[0]: True}
    moves = {}
    layers = 0
    while layer:
        layers += 1
        behind = []
        for standing in layer:
            moves[standing] = moves_from(hall, standing)
            for move in moves[standing]:
                if move[1] not in seen:
                    seen[move[1]] = True
                    behind.append(move[1])
            if len(seen) > MOST_STANDINGS:
                raise TooMany(f"more than {MOST_STANDINGS} standings can be come to")
        layer = behind
    return (moves, layers - 1)


def is_met(cells, goal):
    """Whether walkers in these cells meet the goal."""
    for cell, wanted in zip(cells, goal):
        if wanted is not None and wanted != cell:
            return False
    return True


def standings_met(moves, goal):
    """The standings among all by which the goal is met."""
    return [standing for standing in moves if is_met(standing[0], goal)]


def sources_of(moves):
    """For each standing, whence a step leads to it: (standing, door or None)."""
    sources = {standing: [] for standing in moves}
    for standing in moves:
        for move in moves[standing]:
            sources[move[1]].append((standing, move[2]))
    return sources


def dearer(cost, door, swing):
    """The cost (swings, steps) with one more step ahead, by which a door may swing."""
    if door is None:
        return (cost[0], cost[1] + 1)
    return (cost[0] + swing, cost[1] + 1)


def costs_to(moves, ends, swing):
    """The least cost to come to one of the ends, for each standing from which one can be come to."""
    sources = sources_of(moves)
    costs = {}
    queue = []
    for end in ends:
        heappush(queue, ((0, 0), end))
    while queue:
        cost, standing = heappop(queue)
        if standing not in costs:
            costs[standing] = cost
            for source, door in sources[standing]:
                heappush(queue, (dearer(cost, door, swing), source))
    return costs


def next_move(moves, costs, standing, swing):
    """The first move from a standing that is on a way of least cost; None from an end."""
    for move in moves[standing]:
        if move[1] in costs and dearer(costs[move[1]], move[2], swing) == costs[standing]:
            return move
    return None


def steps_to_end(moves, costs, first, swing):
    """Of the ways of least cost from a standing to an end the first, a tuple of steps."""
    steps = []
    # Each step costs something, so an end has no move on a way of least cost, and all others have one.
    move = next_move(moves, costs, first, swing)
    while move is not None:
        steps.append(move[0])
        move = next_move(moves, costs, move[1], swing)
    return tuple(steps)
