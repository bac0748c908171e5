"""The ground on which a reckoner goes: the row of a floor from its home; and what a line does there.

A stand is the number of the line that comes, and what the boxes hold. A step gives the stand behind it, the number
that was said, None for none, and the word of the end, "" while the reckoner goes on.
"""

from fourstones.rings import row_from


class Ground:
    """The cells of a floor by their numbers, and their numbers by the cells."""

    def __init__(self, floor, home):
        self.floor = floor
        self.row = row_from(floor, home)
        self.numbers = {cell: number for number, cell in enumerate(self.row)}

    def behind(self, number):
        """The number behind this one; behind the last one comes 0."""
        return (number + 1) % len(self.row)

    def beside(self, number, side):
        """The number of the cell beside the one with this number, None if there is a wall."""
        cell = self.floor.near(self.row[number], side)
        return None if cell is None else self.numbers[cell]


def boxes_with(boxes, box, number):
    """What all boxes hold if one of them comes to hold a number."""
    return (*boxes[:box], number, *boxes[box + 1:])


def put(stand, line, number):
    """The step of a line by which its box comes to hold a number."""
    return (line[-1], boxes_with(stand[1], line[1], number)), None, ""


def up_step(ground, stand, line):
    """Goes to the next cell of the row."""
    return put(stand, line, ground.behind(stand[1][line[1]]))


def copy_step(ground, stand, line):
    """Takes over what another box holds."""
    return put(stand, line, stand[1][line[2]])


def step_step(ground, stand, line):
    """Goes to the cell beside; a bump where there is a wall."""
    number = ground.beside(stand[1][line[1]], line[2])
    return (stand, None, "bump") if number is None else put(stand, line, number)


def say_step(ground, stand, line):
    """Says a number."""
    return (line[-1], stand[1]), line[1], ""


def end_step(ground, stand, line):
    """Ends with the word of the line."""
    return stand, None, line[0]


def asked(stand, line, answer):
    """The step of a line that asks: it leads to the line behind its answer."""
    return (line[-2] if answer else line[-1], stand[1]), None, ""


def same_step(ground, stand, line):
    """Asks whether two boxes hold the same number."""
    return asked(stand, line, stand[1][line[1]] == stand[1][line[2]])


def wall_step(ground, stand, line):
    """Asks whether there is a wall at a side."""
    return asked(stand, line, ground.beside(stand[1][line[1]], line[2]) is None)


def home_step(ground, stand, line):
    """Asks whether a box holds 0."""
    return asked(stand, line, stand[1][line[1]] == 0)


STEPPERS = {
    "up": up_step,
    "copy": copy_step,
    "step": step_step,
    "same": same_step,
    "wall": wall_step,
    "home": home_step,
    "say": say_step,
    "stop": end_step,
    "fault": end_step,
}


def step_on(ground, stand, line):
    """What a step does that does this line."""
    stepper = STEPPERS[line[0]]
    return stepper(ground, stand, line)


def lines_done(reckoner, ground, stand, most):
    """The steps of a reckoner from a stand on, one by one: so many, or as many as there are till the end."""
    for _ in range(most):
        step = step_on(ground, stand, reckoner.lines[stand[0]])
        yield step
        stand, _, word = step
        if word != "":
            return
