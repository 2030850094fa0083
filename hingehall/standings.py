"""How walkers and doors stand, and what a step makes of it; hall and cells have been checked."""

from hingehall.halls import WAYS, edge_crossed, edge_from, is_cell, is_edge, is_number, next_cell


def first_standing(hall, cells):
    """The standing in which walkers and doors are handed in."""
    return (cells, "".join([door[2] for door in hall[3]]))


def door_edges(hall, ways):
    """The edge of each door, as the doors stand by their ways."""
    return [edge_from(door[0], door[1], way) for door, way in zip(hall[3], ways)]


def is_step(cells, value):
    """Whether the value has the form of a step of one of the walkers."""
    if not isinstance(value, tuple) or len(value) != 2:
        return False
    walker, way = value
    return is_number(walker) and 0 <= walker < len(cells) and way in WAYS


def are_places(hall, many, value):
    """Whether the value is a tuple of so many unlike cells."""
    if not isinstance(value, tuple) or len(value) != many:
        return False
    for number, cell in enumerate(value):
        if not is_cell(hall, cell) or cell in value[:number]:
            return False
    return True


def are_ways(hall, value):
    """Whether the value is a text by which each door stands on an edge of its own, where no wall is."""
    if not isinstance(value, str) or len(value) != len(hall[3]):
        return False
    for sign in value:
        if sign not in WAYS:
            return False
    edges = door_edges(hall, value)
    for number, edge in enumerate(edges):
        if not is_edge(hall, edge) or edge in hall[2] or edge in edges[:number]:
            return False
    return True


def is_standing(hall, many, value):
    """Whether the value is a standing of so many walkers and of the hall's doors."""
    if not isinstance(value, tuple) or len(value) != 2:
        return False
    return are_places(hall, many, value[0]) and are_ways(hall, value[1])


def swung_ways(hall, ways, door, way):
    """The ways of all doors when one has swung to a way, or None if it can't swing there."""
    row, column, _ = hall[3][door]
    edge = edge_from(row, column, way)
    if not is_edge(hall, edge) or edge in hall[2] or edge in door_edges(hall, ways):
        return None
    return ways[:door] + way + ways[door + 1:]


def step_done(hall, standing, step):
    """(the standing behind a step, the door that swings, or None); None if the step can't be done."""
    cells, ways = standing
    walker, way = step
    ahead = next_cell(cells[walker], way)
    crossed = edge_crossed(cells[walker], way)
    if not is_cell(hall, ahead) or ahead in cells or crossed in hall[2]:
        return None
    moved = cells[:walker] + (ahead,) + cells[walker + 1:]
    edges = door_edges(hall, ways)
    if crossed not in edges:
        return ((moved, ways), None)
    door = edges.index(crossed)
    swung = swung_ways(hall, ways, door, way)
    if swung is None:
        return None
    return ((moved, swung), door)


def step_tried(hall, standing, value):
    """As step_done, of any value: None also for what is no step of one of the walkers."""
    if not is_step(standing[0], value):
        return None
    return step_done(hall, standing, value)


def moves_from(hall, standing):
    """All that can be done from a standing: (step, the standing behind it, door or None), rising by steps."""
    moves = []
    for walker in range(len(standing[0])):
        for way in WAYS:
            found = step_done(hall, standing, (walker, way))
            if found is not None:
                moves.append(((walker, way), found[0], found[1]))
    return moves
