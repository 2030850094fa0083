"""Papers that show that a goal is never met, and the doors without which it is."""

from itertools import combinations

from hingehall.errors import BadCount, BadPaper, Meets
from hingehall.halls import MOST_DOORS, check_goal, check_start, is_number
from hingehall.reach import explored, is_met, standings_met
from hingehall.standings import first_standing, is_standing, moves_from


def paper(hall, cells, goal):
    """All standings that can be come to, rising, where a goal is never met."""
    check_start(hall, cells)
    check_goal(hall, cells, goal)
    moves, _ = explored(hall, cells)
    if standings_met(moves, goal):
        raise Meets("the goal can be met")
    return sorted(moves)


def check_paper(hall, cells, told):
    """Refuse what is no list of rising standings; hall and cells are such."""
    if not isinstance(told, list):
        raise BadPaper(0)
    for number, standing in enumerate(told):
        if not is_standing(hall, len(cells), standing):
            raise BadPaper(number)
        if number > 0 and standing <= told[number - 1]:
            raise BadPaper(number)


def leads_out(hall, standing, listed):
    """Whether a step leads from a standing to one that is not listed."""
    for move in moves_from(hall, standing):
        if move[1] not in listed:
            return True
    return False


def shows(hall, cells, goal, told):
    """Whether a list of standings shows that the goal is never met."""
    check_start(hall, cells)
    check_goal(hall, cells, goal)
    check_paper(hall, cells, told)
    listed = {standing: True for standing in told}
    if first_standing(hall, cells) not in listed:
        return False
    for standing in told:
        if is_met(standing[0], goal) or leads_out(hall, standing, listed):
            return False
    return True


def hall_without(hall, numbers):
    """The hall without the doors of these numbers."""
    doors = [door for number, door in enumerate(hall[3]) if number not in numbers]
    return hall[:3] + (tuple(doors),)


def can_meet(hall, cells, goal):
    """Whether the goal can be met."""
    moves, _ = explored(hall, cells)
    return len(standings_met(moves, goal)) > 0


def lifted(hall, cells, goal, *, most=6):
    """The numbers of the fewest doors without which the goal can be met, of several the first; or None."""
    check_start(hall, cells)
    check_goal(hall, cells, goal)
    if not is_number(most) or not 0 <= most <= MOST_DOORS:
        raise BadCount(f"no number of doors from 0 to {MOST_DOORS}")
    for many in range(most + 1):
        for numbers in combinations(range(len(hall[3])), many):
            if can_meet(hall_without(hall, numbers), cells, goal):
                return numbers
    return None
