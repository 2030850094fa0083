"""A bench: one hall in which steps are done, taken back, and marked."""

from hingehall.errors import BadName, BadStep, Halted, NoPoint
from hingehall.halls import check_start
from hingehall.standings import first_standing, moves_from, step_tried

LETTERS = "abcdefghijklmnopqrstuvwxyz"
LONGEST_NAME = 8


def is_name(value):
    """Whether the value is a name for a mark."""
    if not isinstance(value, str) or not 1 <= len(value) <= LONGEST_NAME:
        return False
    return all([letter in LETTERS for letter in value])


class Bench:
    """A hall and its walkers, as they stand behind the steps done."""

    def __init__(self, hall, cells):
        check_start(hall, cells)
        self._hall = hall
        self._now = first_standing(hall, cells)
        # Of each step (step, door or None, the standing ahead of it): so each can be taken back.
        self._trail = []
        self._points = {}
        self._batches = []
        self._idle = True

    def step(self, step):
        """Do a step; the number of the door that swings, or None."""
        if not self._moved(step):
            raise BadStep(0)
        return self._trail[-1][1]

    def may(self):
        """The steps that may be done, rising."""
        return [move[0] for move in moves_from(self._hall, self._now)]

    def standing(self):
        """How walkers and doors stand."""
        return self._now

    def back(self):
        """Take the last step back; whether there was one."""
        if len(self._trail) == 0:
            return False
        self._now = self._trail.pop()[2]
        return True

    def steps(self):
        """(step, door or None) of all steps done and not taken back, in turn."""
        return [(step, door) for step, door, _ in self._trail]

    def batch(self, steps, *, keep=True):
        """Do a list of steps; what each told. Where one can't be, those ahead of it stay, or, without keep, none."""
        if not isinstance(steps, list):
            raise BadStep(0)
        self._batches.append("begun")
        self._idle = False
        try:
            return self._all_moved(steps, keep)
        finally:
            self._idle = True
            self._batches.append("ended")

    def told(self):
        """The words "begun" and "ended" of each batch, in turn."""
        return list(self._batches)

    def is_idle(self):
        """Whether no batch is under way."""
        return self._idle

    def mark(self, name):
        """Name where it stands, with its steps."""
        if not is_name(name):
            raise BadName(f"a name has one to {LONGEST_NAME} letters a to z")
        self._points[name] = (self._now, list(self._trail))

    def go(self, name):
        """Stand again where the name was given, with the steps that were done there."""
        if not isinstance(name, str) or name not in self._points:
            raise NoPoint("nothing is marked by this name")
        now, trail = self._points[name]
        self._now = now
        # The mark keeps its own, for it may be gone to again.
        self._trail = list(trail)

    def marks(self):
        """(name, standing) of each mark, rising."""
        return [(name, self._points[name][0]) for name in sorted(self._points)]

    def _moved(self, step):
        """Do a step, if it is one that can be done; whether it was."""
        found = step_tried(self._hall, self._now, step)
        if found is None:
            return False
        self._trail.append((step, found[1], self._now))
        self._now = found[0]
        return True

    def _all_moved(self, steps, keep):
        """Do all steps of a batch; what each told."""
        doors = []
        for number, step in enumerate(steps):
            if not self._moved(step):
                raise Halted(number, self._many_left(number, keep))
            doors.append(self._trail[-1][1])
        return doors

    def _many_left(self, many, keep):
        """Of the last steps, so many, how many stay when a batch is cut off: all, or none, taken back here."""
        if keep is True:
            return many
        for _ in range(many):
            self.back()
        return 0
