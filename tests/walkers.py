"""Mice of many kinds, and trips told by other means than the program's: by directions, not by numbers of sides."""

import random

from fourstones.mice import Mouse
from helpers import SHIFTS

SIDES = {shift: side for side, shift in SHIFTS.items()}
# What stands behind the word of a line: the kinds of numbers, as the table of point 7 tells them.
KINDS = {
    "go": "n", "turn": "n", "lay": "spn", "take": "sn", "say": "vn", "wall": "dnn", "here": "spnn", "held": "snn",
    "north": "nn", "stop": "",
}
# Values that are no number of anything, in the place of an integer.
NO_NUMBERS = (None, True, False, "0", "", b"0", 0.0, [], (), [0], (0,), {}, object(), len)


def right_of(direction):
    """The direction a quarter to the right."""
    return (direction[1], -direction[0])


def seen_at(direction, spot):
    """The direction of a spot for a nose with a direction; None for the middle."""
    for _ in range(spot):
        direction = right_of(direction)
    return None if spot == 4 else direction


def told_stones(stones):
    """Where the stones are, as a Trip tells it."""
    return tuple(lies and (*lies[0], 4 if lies[1] is None else SIDES[lies[1]]) for lies in stones)


def states_of(mouse, floor, cell, side, most):
    """What a Trip tells at its begin and behind each of at most so many steps, and the deed that was done with it."""
    cells = set(floor.cells)
    place, nose, line, said, word = tuple(cell), SHIFTS[side], 0, [], ""
    stones = [None] * mouse.stones
    states = [((place, side, 0, told_stones(stones), 0, (), ""), None)]
    while not word and len(states) <= most:
        kind, *told = mouse.lines[line]
        ahead = (place[0] + nose[0], place[1] + nose[1])
        deed, answer, lands = (kind, *told[:-1]), None, None
        if kind in ("lay", "here"):
            lands = (place, seen_at(nose, told[1]))
        if kind == "stop":
            word = "stop"
        elif kind == "go" and ahead not in cells:
            word = "bump"
        elif kind == "lay" and stones[told[0]] is not None:
            word = "fault"
        elif kind == "take" and (stones[told[0]] is None or stones[told[0]][0] != place):
            word = "fault"
        elif kind == "go":
            place = ahead
        elif kind == "turn":
            nose = right_of(nose)
        elif kind == "lay":
            stones[told[0]] = lands
        elif kind == "take":
            stones[told[0]] = None
        elif kind == "say":
            said.append(told[0])
        elif kind == "wall":
            look = seen_at(nose, told[0])
            answer = (place[0] + look[0], place[1] + look[1]) not in cells
        elif kind == "here":
            answer = stones[told[0]] == lands
        elif kind == "held":
            answer = stones[told[0]] is None
        else:
            answer = nose == (0, 1)
        if not word:
            line = told[-1] if answer is None else told[-2 if answer else -1]
        state = (place, SIDES[nose], line, told_stones(stones), len(states), tuple(said), word)
        states.append((state, deed if answer is None and not word else None))
    return states


def some_line(chance, kind, stones, many):
    """A line of this kind with numbers of any size within their bounds."""
    greatest = {"n": many - 1, "s": stones - 1, "p": 4, "d": 3, "v": 10 ** 9}
    return (kind, *(chance.randint(0, greatest[what]) for what in KINDS[kind]))


def some_mouse(seed, stones, many, kinds=None):
    """A mouse of any lines; looks for a wall stand ahead of most goes, so that trips do not end at once."""
    chance = random.Random(seed)
    words = [word for word in kinds or KINDS if stones or "s" not in KINDS[word]]
    lines = [list(some_line(chance, chance.choice(words), stones, many)) for _ in range(many)]
    for at, line in enumerate(lines[:-1]):
        if line[0] == "wall" and chance.random() < 0.7:
            line[1:] = [0, chance.randrange(many), at + 1]
            lines[at + 1] = ["go", chance.randrange(many)]
    return Mouse(stones, lines)


def long_mouse(many, ahead=(), stones=0):
    """A mouse of so many lines, begun by these, that turns and goes, turning where there is a wall ahead."""
    lines = [*ahead]
    while len(lines) < many - 4:
        lines.append(("turn", len(lines) + 1))
    at = len(lines)
    lines += [("wall", 0, at + 1, at + 2), ("turn", at), ("go", at + 3), ("say", 7, len(ahead))]
    return Mouse(stones, lines)
