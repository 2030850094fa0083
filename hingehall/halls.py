"""What a hall is, with its cells and edges; what is no hall, and no place for walkers, is refused."""

from hingehall.errors import BadCells, BadGoal, BadHall

# The ways in the order of texts, so that steps by them come out rising.
WAYS = ("e", "n", "s", "w")

MOST_SIDE = 5
MOST_WALLS = 24
MOST_DOORS = 6
MOST_WALKERS = 3


def is_number(value):
    """Whether the value is a whole number: True and False are none."""
    return isinstance(value, int) and not isinstance(value, bool)


def is_side(value):
    """Whether a hall can have so many rows, or columns."""
    return is_number(value) and 1 <= value <= MOST_SIDE


def is_cell(hall, value):
    """Whether the value is a cell of the hall."""
    if not isinstance(value, tuple) or len(value) != 2:
        return False
    row, column = value
    if not is_number(row) or not is_number(column):
        return False
    return 0 <= row < hall[0] and 0 <= column < hall[1]


def is_edge(hall, value):
    """Whether the value is an edge, with a cell of the hall on both of its sides."""
    if not isinstance(value, tuple) or len(value) != 3:
        return False
    row, column, sign = value
    if not is_cell(hall, (row, column)):
        return False
    if sign == "-":
        return row > 0
    return sign == "|" and column > 0


def edge_from(row, column, way):
    """The edge that leads from a corner by a way; it may lie at the hall's side or outside."""
    if way == "n":
        return (row - 1, column, "|")
    if way == "e":
        return (row, column, "-")
    if way == "s":
        return (row, column, "|")
    return (row, column - 1, "-")


def edge_crossed(cell, way):
    """The edge that lies between a cell and the next one by a way."""
    row, column = cell
    if way == "n":
        return (row, column, "-")
    if way == "e":
        return (row, column + 1, "|")
    if way == "s":
        return (row + 1, column, "-")
    return (row, column, "|")


def next_cell(cell, way):
    """The next cell by a way; it may lie outside of the hall."""
    row, column = cell
    if way == "n":
        return (row - 1, column)
    if way == "e":
        return (row, column + 1)
    if way == "s":
        return (row + 1, column)
    return (row, column - 1)


def door_edge(door):
    """The edge on which a door is handed in, or None for what has not the form of a door."""
    if not isinstance(door, tuple) or len(door) != 3:
        return None
    row, column, way = door
    if not is_number(row) or not is_number(column) or way not in WAYS:
        return None
    return edge_from(row, column, way)


def check_edges(hall, part, edges, most, taken):
    """Refuse the first of a part's edges that is none, that is taken, or that is one too many."""
    for number, edge in enumerate(edges):
        if number == most or not is_edge(hall, edge):
            raise BadHall(part, number)
        if edge in taken or edge in edges[:number]:
            raise BadHall(part, number)


def check_hall(hall):
    """Refuse what is no hall."""
    if not isinstance(hall, tuple) or len(hall) != 4:
        raise BadHall(0, 0)
    rows, columns, walls, doors = hall
    if not is_side(rows):
        raise BadHall(0, 0)
    if not is_side(columns):
        raise BadHall(1, 0)
    if not isinstance(walls, tuple):
        raise BadHall(2, 0)
    check_edges(hall, 2, walls, MOST_WALLS, ())
    if not isinstance(doors, tuple):
        raise BadHall(3, 0)
    check_edges(hall, 3, [door_edge(door) for door in doors], MOST_DOORS, walls)


def check_cells(hall, cells):
    """Refuse what is no place for walkers; the hall is one."""
    if not isinstance(cells, tuple) or len(cells) == 0:
        raise BadCells(0)
    for number, cell in enumerate(cells):
        if number == MOST_WALKERS or not is_cell(hall, cell) or cell in cells[:number]:
            raise BadCells(number)


def check_start(hall, cells):
    """Refuse what is no hall, then what is no place for walkers in it."""
    check_hall(hall)
    check_cells(hall, cells)


def check_goal(hall, cells, goal):
    """Refuse what is no goal for the walkers; hall and cells are such."""
    if not isinstance(goal, tuple):
        raise BadGoal(0)
    for number, cell in enumerate(goal):
        if number == len(cells):
            raise BadGoal(number)
        if cell is not None and (not is_cell(hall, cell) or cell in goal[:number]):
            raise BadGoal(number)
    if len(goal) < len(cells):
        raise BadGoal(len(goal))
