"""Stands of a trip, and what a step does.

A stand is the cell, the nose, the number of the line that comes, and where each stone lies: None if it is in the
paws, otherwise (x, y, spot). A step gives the stand behind it, the deed that was done, None for none, and the word of
the end, "" while the trip goes on.
"""

MIDDLE = 4


def first_stand(stones, cell, side, line=0):
    """The stand at the begin of a trip, all stones in the paws."""
    return (tuple(cell), side, line, (None,) * stones)


def place_at(stand, spot):
    """Where a stone lies that lies at a spot of the cell, as the nose sees it now."""
    x, y = stand[0]
    return (x, y, spot if spot == MIDDLE else (stand[1] + spot) % 4)


def stones_with(stones, stone, place):
    """Where all stones are if one of them comes to a place."""
    return (*stones[:stone], place, *stones[stone + 1:])


def go_step(floor, stand, line):
    """Goes to the neighbour ahead; a bump where there is a wall."""
    cell, nose, _, stones = stand
    ahead = floor.near(cell, nose)
    if ahead is None:
        return stand, None, "bump"
    return (ahead, nose, line[-1], stones), ("go",), ""


def turn_step(floor, stand, line):
    """Turns by a quarter to the right."""
    cell, nose, _, stones = stand
    return (cell, (nose + 1) % 4, line[-1], stones), ("turn",), ""


def lay_step(floor, stand, line):
    """Lays a stone; a fault if it is not in the paws."""
    cell, nose, _, stones = stand
    if stones[line[1]] is not None:
        return stand, None, "fault"
    laid = stones_with(stones, line[1], place_at(stand, line[2]))
    return (cell, nose, line[-1], laid), ("lay", line[1], line[2]), ""


def take_step(floor, stand, line):
    """Takes a stone up; a fault if it does not lie in the cell."""
    cell, nose, _, stones = stand
    place = stones[line[1]]
    if place is None or place[:2] != cell:
        return stand, None, "fault"
    return (cell, nose, line[-1], stones_with(stones, line[1], None)), ("take", line[1]), ""


def say_step(floor, stand, line):
    """Says a number."""
    cell, nose, _, stones = stand
    return (cell, nose, line[-1], stones), ("say", line[1]), ""


def stop_step(floor, stand, line):
    """Stops."""
    return stand, None, "stop"


def looked(stand, line, answer):
    """The step of a look: it leads to the line behind its answer."""
    cell, nose, _, stones = stand
    return (cell, nose, line[-2] if answer else line[-1], stones), None, ""


def wall_step(floor, stand, line):
    """Looks whether there is a wall at a side."""
    return looked(stand, line, floor.near(stand[0], (stand[1] + line[1]) % 4) is None)


def here_step(floor, stand, line):
    """Looks whether a stone lies at a spot of the cell."""
    return looked(stand, line, stand[3][line[1]] == place_at(stand, line[2]))


def held_step(floor, stand, line):
    """Looks whether a stone is in the paws."""
    return looked(stand, line, stand[3][line[1]] is None)


def north_step(floor, stand, line):
    """Looks whether the nose points north."""
    return looked(stand, line, stand[1] == 0)


STEPPERS = {
    "go": go_step,
    "turn": turn_step,
    "lay": lay_step,
    "take": take_step,
    "say": say_step,
    "stop": stop_step,
    "wall": wall_step,
    "here": here_step,
    "held": held_step,
    "north": north_step,
}


def step_along(floor, stand, line):
    """What a step does that does this line."""
    stepper = STEPPERS[line[0]]
    return stepper(floor, stand, line)


def steps_from(mouse, floor, stand, most):
    """The steps of a trip from a stand on, one by one: so many, or as many as there are till the end."""
    for _ in range(most):
        step = step_along(floor, stand, mouse.lines[stand[2]])
        yield step
        stand, _, word = step
        if word != "":
            return
