"""Mice: tables of lines that look or do something, and tell which line is next."""

from fourstones.checks import is_within
from fourstones.errors import BadMouse
from fourstones.forms import are_lines, lines_in, lines_taken, text_of
from fourstones.texts import items_of, number_at

MOST_STONES = 12
# What stands behind the word of a line; the lines to which it leads come last.
FORMS = {
    "go": ("line",),
    "turn": ("line",),
    "lay": ("stone", "spot", "line"),
    "take": ("stone", "line"),
    "say": ("number", "line"),
    "wall": ("side", "line", "line"),
    "here": ("stone", "spot", "line", "line"),
    "held": ("stone", "line", "line"),
    "north": ("line", "line"),
    "stop": (),
}


def greatest_with(stones):
    """The greatest integer of each kind in the lines of a mouse with so many stones."""
    return {"stone": stones - 1, "spot": 4, "side": 3, "number": 1000000000}


def leads_of(line):
    """The lines to which a line leads: none, its NEXT, or its YES and its NO."""
    many = FORMS[line[0]].count("line")
    return line[len(line) - many:]


def head_of(line):
    """What is done or asked by a line, wherever it leads."""
    many = FORMS[line[0]].count("line")
    return line[:len(line) - many]


class Mouse:
    """A number of stones, and a table of lines."""

    def __init__(self, stones, lines):
        if not is_within(stones, 0, MOST_STONES):
            raise BadMouse("stones")
        if not are_lines(lines, dict(FORMS), greatest_with(stones)):
            raise BadMouse("lines")
        self.stones = stones
        self.lines = lines_taken(lines)

    def __eq__(self, other):
        return isinstance(other, Mouse) and self.stones == other.stones and self.lines == other.lines

    def __str__(self):
        return str(text_of(self.stones, self.lines))

    @staticmethod
    def read(text):
        """The mouse whose text this is."""
        items = items_of(text)
        stones = number_at(items, 0, 0, MOST_STONES)
        return Mouse(stones, lines_in(items, dict(FORMS), greatest_with(stones)))


def demand_mouse(value, part):
    """Raises BadMouse(part) for no mouse."""
    if not isinstance(value, Mouse):
        raise BadMouse(part)
