"""All that is refused, each kind by a class of its own."""


class HallError(ValueError):
    """Any refusal."""


class BadHall(HallError):
    """No hall: the part of it, and the number in that part, that can't be."""

    def __init__(self, part, number):
        super().__init__(f"part {part} of the hall, number {number}, can't be")
        self.part = part
        self.number = number


class BadCells(HallError):
    """No cells for walkers: the number of the first that can't be."""

    def __init__(self, number):
        super().__init__(f"cell {number} of the walkers can't be")
        self.number = number


class BadGoal(HallError):
    """No goal: the number of the first that can't be, lacks, or is too much."""

    def __init__(self, number):
        super().__init__(f"cell {number} of the goal can't be")
        self.number = number


class BadStep(HallError):
    """A step that can't be: its number."""

    def __init__(self, number):
        super().__init__(f"step {number} can't be")
        self.number = number


class BadPaper(HallError):
    """No paper: the number of the first thing that is no standing, or not in its turn."""

    def __init__(self, number):
        super().__init__(f"standing {number} of the paper can't be")
        self.number = number


class BadCount(HallError):
    """No number of doors that may be lifted."""


class TooMany(HallError):
    """More standings can be come to than are looked at."""


class Meets(HallError):
    """A goal that can be met, where one that is never met is asked for."""


class BadName(HallError):
    """No name for a mark."""


class NoPoint(HallError):
    """A name that marks nothing."""


class Halted(HallError):
    """A batch that was cut off: the number of the step, and how many stand done."""

    def __init__(self, number, done):
        super().__init__(f"step {number} of the batch can't be, {done} stand")
        self.number = number
        self.done = done


class BadText(HallError):
    """No written hall: the first row that can't be."""

    def __init__(self, row):
        super().__init__(f"row {row} of the text can't be")
        self.row = row
