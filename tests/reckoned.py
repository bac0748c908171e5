"""Reckoners of many kinds, and reckonings told by other means than the program's."""

import random

from fourstones.reckoners import Reckoner
from helpers import SHIFTS
from test_rings import row_by_pieces

# What stands behind the word of a line: the kinds of numbers, as the table of point 12 tells them.
KINDS = {
    "up": "bn", "copy": "bbn", "step": "bdn", "same": "bbnn", "wall": "bdnn", "home": "bnn", "say": "vn", "stop": "",
    "fault": "",
}


def some_reckoner_line(chance, kind, boxes, many):
    """A line of this kind with numbers of any size within their bounds."""
    greatest = {"n": many - 1, "b": boxes - 1, "d": 3, "v": 10 ** 9}
    return (kind, *(chance.randint(0, greatest[what]) for what in KINDS[kind]))


def some_reckoner(seed, boxes, many, kinds=None):
    """A reckoner of any lines; most steps stand behind a look for the wall, so that not each one ends at once."""
    chance = random.Random(seed)
    words = kinds or [*KINDS, "up", "copy", "step", "same", "wall", "home", "say"]
    lines = [some_reckoner_line(chance, chance.choice(words), boxes, many) for _ in range(many)]
    for at, line in enumerate(lines[:-1]):
        if line[0] == "wall" and chance.random() < 0.7:
            lines[at] = (*line[:3], chance.randrange(many), at + 1)
            lines[at + 1] = ("step", line[1], line[2], chance.randrange(many))
    return Reckoner(boxes, lines)


def reckoned(reckoner, floor, home, most):
    """Behind each of at most so many steps: boxes, line, steps, said, word; the begin is first."""
    row = row_by_pieces(floor, tuple(home))
    held = [row[0]] * reckoner.boxes
    line, said, word = 0, [], ""
    states = [((0,) * reckoner.boxes, 0, 0, (), "")]
    while not word and len(states) <= most:
        kind, *told = reckoner.lines[line]
        answer = None
        if kind in ("step", "wall"):
            (x, y), (right, up) = held[told[0]], SHIFTS[told[1]]
            beside = (x + right, y + up)
        if kind in ("stop", "fault"):
            word = kind
        elif kind == "step" and beside not in row:
            word = "bump"
        elif kind == "step":
            held[told[0]] = beside
        elif kind == "up":
            held[told[0]] = (row + row)[row.index(held[told[0]]) + 1]
        elif kind == "copy":
            held[told[0]] = held[told[1]]
        elif kind == "say":
            said.append(told[0])
        elif kind == "wall":
            answer = beside not in row
        elif kind == "same":
            answer = held[told[0]] == held[told[1]]
        else:
            answer = held[told[0]] == row[0]
        if not word:
            line = told[-1] if answer is None else told[-2 if answer else -1]
        states.append((tuple(row.index(cell) for cell in held), line, len(states), tuple(said), word))
    return states
