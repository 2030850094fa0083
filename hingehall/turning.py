"""Halls turned a quarter, the top to the right, and mirrored, left and right exchanged."""

from hingehall.halls import check_start

WAYS_TURNED = {"n": "e", "e": "s", "s": "w", "w": "n"}
WAYS_MIRRORED = {"n": "n", "e": "w", "s": "s", "w": "e"}


def turned_edge(rows, edge):
    """An edge in a hall of so many rows, turned with it."""
    row, column, sign = edge
    if sign == "-":
        return (column, rows - row, "|")
    # Its lower corner comes to lie to the left, and an edge is told by its left one.
    return (column, rows - row - 1, "-")


def mirrored_edge(columns, edge):
    """An edge in a hall of so many columns, mirrored with it."""
    row, column, sign = edge
    if sign == "|":
        return (row, columns - column, "|")
    # Its right corner comes to lie to the left, and an edge is told by its left one.
    return (row, columns - column - 1, "-")


def turned(hall, cells):
    """(the hall, the walkers' cells), both turned a quarter, the top to the right."""
    check_start(hall, cells)
    rows, columns, walls, doors = hall
    edges = [turned_edge(rows, edge) for edge in walls]
    hung = [(column, rows - row, WAYS_TURNED[way]) for row, column, way in doors]
    places = [(column, rows - row - 1) for row, column in cells]
    return ((columns, rows, tuple(edges), tuple(hung)), tuple(places))


def mirrored(hall, cells):
    """(the hall, the walkers' cells), both with left and right exchanged."""
    check_start(hall, cells)
    rows, columns, walls, doors = hall
    edges = [mirrored_edge(columns, edge) for edge in walls]
    hung = [(row, columns - column, WAYS_MIRRORED[way]) for row, column, way in doors]
    places = [(row, columns - column - 1) for row, column in cells]
    return ((rows, columns, tuple(edges), tuple(hung)), tuple(places))
