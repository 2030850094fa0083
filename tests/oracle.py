"""A second, slow model of the same halls, for the tests to compare with.

It shares no code with the program: an edge is the set of its two corners here,
and ways are found by trying every one until none gets better.
"""

import itertools
import random

OFFSETS = {"e": (0, 1), "n": (-1, 0), "s": (1, 0), "w": (0, -1)}


def shifted(place, way):
    return (place[0] + OFFSETS[way][0], place[1] + OFFSETS[way][1])


def corners(cell):
    row, column = cell
    return {(row, column), (row, column + 1), (row + 1, column), (row + 1, column + 1)}


def all_cells(rows, columns):
    return [(row, column) for row in range(rows) for column in range(columns)]


def inner_edges(rows, columns):
    """Every pair of corners between two cells, as they are written."""
    edges = {}
    for row, column in all_cells(rows, columns):
        if row:
            edges[frozenset({(row, column), (row, column + 1)})] = (row, column, "-")
        if column:
            edges[frozenset({(row, column), (row + 1, column)})] = (row, column, "|")
    return edges


class Model:
    def __init__(self, hall, cells):
        self.rows, self.columns, walls, doors = hall
        self.cells = all_cells(self.rows, self.columns)
        self.edges = inner_edges(self.rows, self.columns)
        self.walls = [edge for edge, written in self.edges.items() if written in walls]
        self.hinges = [(row, column) for row, column, _ in doors]
        self.first = (tuple(cells), "".join(way for _, _, way in doors))
        self.table = {}

    def leaf(self, door, way):
        hinge = self.hinges[door]
        return frozenset({hinge, shifted(hinge, way)})

    def after(self, standing, step):
        """(standing, door) behind a step, or None."""
        cells, ways = standing
        walker, way = step
        here, there = cells[walker], shifted(cells[walker], way)
        if there not in self.cells or there in cells:
            return None
        between = frozenset(corners(here) & corners(there))
        if between in self.walls:
            return None
        cells = tuple(there if k == walker else cell for k, cell in enumerate(cells))
        leaves = [self.leaf(door, sign) for door, sign in enumerate(ways)]
        for door, leaf in enumerate(leaves):
            if leaf == between:
                swung = self.leaf(door, way)
                if swung not in self.edges or swung in self.walls or swung in leaves:
                    return None
                return (cells, ways[:door] + way + ways[door + 1:]), door
        return (cells, ways), None

    def moves(self, standing):
        """step: (standing, door), for all that may be done."""
        if standing not in self.table:
            steps = [(walker, way) for walker in range(len(standing[0])) for way in OFFSETS]
            tried = {step: self.after(standing, step) for step in steps}
            self.table[standing] = {step: told for step, told in tried.items() if told}
        return self.table[standing]

    def come_to(self, start, most=None):
        """All standings that can be come to from one, or None for more than most."""
        found, left = {start}, [start]
        while left:
            for standing, _ in self.moves(left.pop()).values():
                if standing not in found:
                    found.add(standing)
                    left.append(standing)
            if most is not None and len(found) > most:
                return None
        return found

    def labels(self, swing):
        """The least (swings, how many steps, steps) to each standing."""
        best = {self.first: (0, 0, ())}
        left = [self.first]
        while left:
            standing = left.pop(0)
            swings, many, steps = best[standing]
            for step, (behind, door) in self.moves(standing).items():
                label = (swings + (swing if door is not None else 0), many + 1, steps + (step,))
                if behind not in best or label < best[behind]:
                    best[behind] = label
                    left.append(behind)
        return best

    def best(self, goal, swing):
        met = [label for standing, label in self.labels(swing).items() if meets(standing, goal)]
        return min(met, default=None)

    def shortest(self, goal):
        found = self.best(goal, 0)
        return None if found is None else found[2]

    def gentlest(self, goal):
        found = self.best(goal, 1)
        return None if found is None else (found[0], found[2])

    def reached(self):
        found = self.come_to(self.first)
        return [sorted({cells[walker] for cells, _ in found}) for walker in range(len(self.first[0]))]

    def far(self):
        labels = self.labels(0)
        return len(labels), max(many for _, many, _ in labels.values())

    def still(self):
        swung = {door for standing in self.come_to(self.first) for _, door in self.moves(standing).values()}
        return [door for door in range(len(self.hinges)) if door not in swung]

    def oneway(self):
        steps = self.moves(self.first)
        return sorted(step for step in steps if self.first not in self.come_to(steps[step][0]))

    def lost(self, goal):
        found = self.come_to(self.first)
        return sorted(one for one in found if not any(meets(end, goal) for end in self.come_to(one)))


def meets(standing, goal):
    return all(cell is None or standing[0][walker] == cell for walker, cell in enumerate(goal))


def lifted(hall, cells, goal, most, most_standings):
    """The doors without which a goal can be met, None, or "too many"."""
    numbers = range(len(hall[3]))
    chosen = [doors for many in numbers for doors in itertools.combinations(numbers, many)] + [tuple(numbers)]
    for doors in sorted(chosen, key=lambda doors: (len(doors), doors)):
        if len(doors) <= most:
            left = tuple(door for number, door in enumerate(hall[3]) if number not in doors)
            model = Model(hall[:3] + (left,), cells)
            found = model.come_to(model.first, most_standings)
            if found is None:
                return "too many"
            if any(meets(standing, goal) for standing in found):
                return doors
    return None


def made_hall(chance, most_side, most_walls, most_doors):
    """A hall of the chance handed in: the same for the same seed."""
    rows, columns = chance.randint(1, most_side), chance.randint(1, most_side)
    edges = sorted(inner_edges(rows, columns).items(), key=lambda pair: pair[1])
    chance.shuffle(edges)
    many = chance.randint(0, min(most_walls, len(edges)))
    walls = tuple(written for _, written in edges[:many])
    doors = []
    for edge, _ in edges[many:many + chance.randint(0, most_doors)]:
        hinge, tip = chance.sample(sorted(edge), 2)
        doors.append(hinge + tuple(way for way in OFFSETS if shifted(hinge, way) == tip))
    return rows, columns, walls, tuple(doors)


def made_cells(chance, hall, most):
    cells = all_cells(hall[0], hall[1])
    return tuple(chance.sample(cells, chance.randint(1, min(most, len(cells)))))


def made_goal(chance, hall, cells):
    wanted = chance.sample(all_cells(hall[0], hall[1]), len(cells))
    return tuple(cell if chance.randint(0, 2) else None for cell in wanted)


def made_places(seed, many, most_standings, most_side=3, most_walls=4, most_doors=4, most_walkers=3):
    """Halls with cells and a goal, of no more than so many standings."""
    chance = random.Random(seed)
    places = []
    while len(places) < many:
        hall = made_hall(chance, most_side, most_walls, most_doors)
        cells = made_cells(chance, hall, most_walkers)
        if Model(hall, cells).come_to((cells, "".join(door[2] for door in hall[3])), most_standings) is not None:
            places.append((hall, cells, made_goal(chance, hall, cells)))
    return places


def moved_place(hall, cells, rows, columns, moved):
    """Hall and cells when each corner has moved to another, in a hall of so many rows and columns."""
    edges = inner_edges(rows, columns)
    walls = []
    for row, column, sign in hall[2]:
        ends = (row, column), (row, column + 1) if sign == "-" else (row + 1, column)
        walls.append(edges[frozenset(moved(end) for end in ends)])
    doors = []
    for row, column, way in hall[3]:
        hinge, tip = moved((row, column)), moved(shifted((row, column), way))
        doors.append(hinge + tuple(sign for sign in OFFSETS if shifted(hinge, sign) == tip))
    places = tuple(min(moved(corner) for corner in corners(cell)) for cell in cells)
    return (rows, columns, tuple(walls), tuple(doors)), places
