"""Tables of lines: a word has a form, which is the kinds of the integers that stand behind it.

The greatest integer of each kind is told by a dict, the least one is 0. A "line" is the number of a line of the
table, so the greatest one hangs on how many lines there are.
"""

from fourstones.checks import is_within
from fourstones.errors import BadText
from fourstones.texts import number_at

MOST_LINES = 6000


def is_line(value, forms, greatest):
    """Whether any value is a line of one of these forms."""
    if not isinstance(value, (list, tuple)) or len(value) == 0:
        return False
    word = value[0]
    if not isinstance(word, str) or word not in forms:
        return False
    kinds = forms[word]
    if len(value) != 1 + len(kinds):
        return False
    return all([is_within(value[1 + at], 0, greatest[kind]) for at, kind in enumerate(kinds)])


def are_lines(value, forms, greatest):
    """Whether any value is a list of lines of one table."""
    if not isinstance(value, (list, tuple)) or not 1 <= len(value) <= MOST_LINES:
        return False
    known = {**greatest, "line": len(value) - 1}
    return all([is_line(line, forms, known) for line in value])


def lines_taken(lines):
    """The lines of a table as they are kept."""
    return tuple([tuple(line) for line in lines])


def text_of(number, lines):
    """The text of a table: a number that stands ahead of all lines, then each line behind a `/`."""
    rows = [" ".join([str(item) for item in line]) for line in lines]
    return " / ".join([str(number), *rows])


def line_at(items, at, forms, greatest):
    """The line that begins at an item of a text."""
    if at >= len(items) or items[at] not in forms:
        raise BadText(0, at)
    line = [items[at]]
    for kind in forms[items[at]]:
        line.append(number_at(items, at + len(line), 0, greatest[kind]))
    return tuple(line)


def lines_in(items, forms, greatest):
    """The lines that the items of a text tell behind the first one; BadText for the item that cannot stand."""
    known = {**greatest, "line": MOST_LINES - 1}
    lines = []
    at = 1
    while at < len(items) or not lines:
        if at >= len(items) or items[at] != "/" or len(lines) == MOST_LINES:
            raise BadText(0, at)
        lines.append(line_at(items, at + 1, forms, known))
        at += 1 + len(lines[-1])
    # Whether a line is there to which another one leads shows only behind the last one.
    if not are_lines(lines, forms, greatest):
        raise BadText(0, len(items) - 1)
    return lines
