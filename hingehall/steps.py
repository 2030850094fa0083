"""Walks, step by step."""

from hingehall.errors import BadStep
from hingehall.halls import check_start
from hingehall.standings import first_standing, moves_from, step_tried


def walk(hall, cells, steps):
    """(the standing behind the steps, a list of (the walker's cell, the door that swings or None) of each)."""
    check_start(hall, cells)
    if not isinstance(steps, tuple):
        raise BadStep(0)
    standing = first_standing(hall, cells)
    told = []
    for number, step in enumerate(steps):
        found = step_tried(hall, standing, step)
        if found is None:
            raise BadStep(number)
        standing, door = found
        told.append((standing[0][step[0]], door))
    return (standing, told)


def may(hall, cells):
    """All steps that may be done from the first standing, rising."""
    check_start(hall, cells)
    return [move[0] for move in moves_from(hall, first_standing(hall, cells))]
