"""A hall and the walkers' cells, written as a text and read from it."""

from hingehall.errors import BadText
from hingehall.halls import check_start

# In this turn the rows of a text come.
KINDS = ("hall", "wall", "door", "at")
# The signs that may stand last in a row, where it doesn't end with its two numbers.
SIGNS = {"wall": ("-", "|"), "door": ("e", "n", "s", "w")}
FIGURES = "0123456789"


def written(hall, cells):
    """The text of a hall and its walkers' cells."""
    check_start(hall, cells)
    rows, columns, walls, doors = hall
    lines = [f"hall {rows} {columns}"]
    lines.extend([f"wall {row} {column} {sign}" for row, column, sign in walls])
    lines.extend([f"door {row} {column} {way}" for row, column, way in doors])
    lines.extend([f"at {row} {column}" for row, column in cells])
    return "\n".join(lines)


def is_figure(word):
    """Whether a word is a number of one figure."""
    return len(word) == 1 and word in FIGURES


def is_row(words):
    """Whether a row is, by its words, one of the four kinds."""
    if words[0] not in KINDS or len(words) < 3:
        return False
    if not is_figure(words[1]) or not is_figure(words[2]):
        return False
    if words[0] in SIGNS:
        return len(words) == 4 and words[3] in SIGNS[words[0]]
    return len(words) == 3


def thing_of(words):
    """What a row tells: its two numbers, and its sign where it has one."""
    return (int(words[1]), int(words[2])) + tuple(words[3:])


def things_of(text):
    """What the rows of a text tell, a list for each kind."""
    things = {word: [] for word in KINDS}
    latest = 0
    for number, row in enumerate(text.split("\n")):
        words = row.split(" ")
        if not is_row(words) or (words[0] == "hall") != (number == 0):
            raise BadText(number)
        kind = KINDS.index(words[0])
        if kind < latest:
            raise BadText(number)
        latest = kind
        things[words[0]].append(thing_of(words))
    return things


def read(text):
    """(the hall, the walkers' cells) that a text tells."""
    if not isinstance(text, str):
        raise BadText(0)
    things = things_of(text)
    rows, columns = things["hall"][0]
    hall = (rows, columns, tuple(things["wall"]), tuple(things["door"]))
    cells = tuple(things["at"])
    check_start(hall, cells)
    return (hall, cells)
