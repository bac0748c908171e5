"""Mice: tables of lines that look or do something, and tell which line is next."""

from fourstones.checks import is_within
from fourstones.errors import BadMouse, BadText
from fourstones.texts import items_of, number_at

MOST_STONES = 12
MOST_LINES = 6000
# What stands behind the word of a line; the lines to which it leads come last.
FORMS = {
    "go": ("line",),
    "turn": ("line",),
    "lay": ("stone", "spot", "line"),
    "take": ("stone", "line"),
    "say": ("number", "line"),
    "wall": ("side", "line", "line"),
    "here": ("stone", "spot", "line", "line"),
    "held": ("stone", "line", "line"),
    "north": ("line", "line"),
    "stop": (),
}
GREATEST = {"spot": 4, "side": 3, "number": 1000000000}


def greatest_of(kind, stones, many):
    """The greatest integer of this kind in a mouse with so many stones and lines; the least one is 0."""
    if kind == "line":
        return many - 1
    if kind == "stone":
        return stones - 1
    return GREATEST[kind]


def is_line(value, stones, many):
    """Whether any value is a line of a mouse with so many stones and lines."""
    if not isinstance(value, (list, tuple)) or len(value) == 0:
        return False
    word = value[0]
    if not isinstance(word, str) or word not in FORMS:
        return False
    kinds = FORMS[word]
    if len(value) != 1 + len(kinds):
        return False
    return all([is_within(value[1 + at], 0, greatest_of(kind, stones, many)) for at, kind in enumerate(kinds)])


def are_lines(value, stones):
    """Whether any value is a list of lines of one mouse with so many stones."""
    if not isinstance(value, (list, tuple)) or not 1 <= len(value) <= MOST_LINES:
        return False
    return all([is_line(line, stones, len(value)) for line in value])


def leads_of(line):
    """The lines to which a line leads: none, its NEXT, or its YES and its NO."""
    many = FORMS[line[0]].count("line")
    return line[len(line) - many:]


def head_of(line):
    """What is done or asked by a line, wherever it leads."""
    many = FORMS[line[0]].count("line")
    return line[:len(line) - many]


def line_at(items, at, stones):
    """The line of a mouse with so many stones that begins at an item; it may lead to any line a mouse can have."""
    if at >= len(items) or items[at] not in FORMS:
        raise BadText(0, at)
    line = [items[at]]
    for kind in FORMS[items[at]]:
        line.append(number_at(items, at + len(line), 0, greatest_of(kind, stones, MOST_LINES)))
    return tuple(line)


class Mouse:
    """A number of stones, and a table of lines."""

    def __init__(self, stones, lines):
        if not is_within(stones, 0, MOST_STONES):
            raise BadMouse("stones")
        if not are_lines(lines, stones):
            raise BadMouse("lines")
        self.stones = stones
        self.lines = tuple([tuple(line) for line in lines])

    def __eq__(self, other):
        return isinstance(other, Mouse) and self.stones == other.stones and self.lines == other.lines

    def __str__(self):
        rows = [" ".join([str(item) for item in line]) for line in self.lines]
        return " / ".join([str(self.stones), *rows])

    @staticmethod
    def read(text):
        """The mouse whose text this is."""
        items = items_of(text)
        stones = number_at(items, 0, 0, MOST_STONES)
        lines = []
        at = 1
        while at < len(items) or not lines:
            if at >= len(items) or items[at] != "/" or len(lines) == MOST_LINES:
                raise BadText(0, at)
            lines.append(line_at(items, at + 1, stones))
            at += 1 + len(lines[-1])
        # Whether a line is there to which another one leads shows only behind the last one.
        if not are_lines(lines, stones):
            raise BadText(0, len(items) - 1)
        return Mouse(stones, lines)


def demand_mouse(value, part):
    """Raises BadMouse(part) for no mouse."""
    if not isinstance(value, Mouse):
        raise BadMouse(part)
