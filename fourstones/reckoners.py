"""Reckoners: programs with boxes, each of which holds the number of a cell."""

from fourstones.checks import is_within
from fourstones.errors import BadReckoner
from fourstones.forms import are_lines, lines_in, lines_taken, text_of
from fourstones.texts import items_of, number_at

MOST_BOXES = 12
# What stands behind the word of a line; the lines to which it leads come last.
FORMS = {
    "up": ("box", "line"),
    "copy": ("box", "box", "line"),
    "step": ("box", "side", "line"),
    "same": ("box", "box", "line", "line"),
    "wall": ("box", "side", "line", "line"),
    "home": ("box", "line", "line"),
    "say": ("number", "line"),
    "stop": (),
    "fault": (),
}


def greatest_with(boxes):
    """The greatest integer of each kind in the lines of a reckoner with so many boxes."""
    return {"box": boxes - 1, "side": 3, "number": 1000000000}


class Reckoner:
    """A number of boxes, and a table of lines."""

    def __init__(self, boxes, lines):
        if not is_within(boxes, 1, MOST_BOXES):
            raise BadReckoner("boxes")
        if not are_lines(lines, dict(FORMS), greatest_with(boxes)):
            raise BadReckoner("lines")
        self.boxes = boxes
        self.lines = lines_taken(lines)

    def __eq__(self, other):
        return isinstance(other, Reckoner) and self.boxes == other.boxes and self.lines == other.lines

    def __str__(self):
        return str(text_of(self.boxes, self.lines))

    @staticmethod
    def read(text):
        """The reckoner whose text this is."""
        items = items_of(text)
        boxes = number_at(items, 0, 1, MOST_BOXES)
        return Reckoner(boxes, lines_in(items, dict(FORMS), greatest_with(boxes)))


def demand_reckoner(value, part):
    """Raises BadReckoner(part) for no reckoner."""
    if not isinstance(value, Reckoner):
        raise BadReckoner(part)
