"""Mice led back to reckoners: box 0 is where the mouse is, each other box where a stone lies."""

from fourstones.demands import demand_within
from fourstones.errors import Misfit, TooMany
from fourstones.forms import MOST_LINES
from fourstones.mice import demand_mouse
from fourstones.reckoners import MOST_BOXES, Reckoner
from fourstones.standings import comes_to, numbered_standings, spot_for

MOST_STANDINGS = 20000
# One line of the reckoner is for faults.
MOST_LED = MOST_LINES - 1


def demand_start(mouse, side):
    """Raises what is raised for a mouse and the side of its nose."""
    demand_mouse(mouse, "mouse")
    demand_within(side, 0, 3, "side")


def standings_of(mouse, side):
    """How many standings the mouse comes to."""
    demand_start(mouse, side)
    numbers = numbered_standings(mouse, side, MOST_STANDINGS)
    if numbers is None:
        raise TooMany("standings", MOST_STANDINGS)
    return len(numbers)


def line_for(standing, line, leads, fault):
    """The line of the reckoner for a standing of the mouse at this line.

    It leads to these lines of the reckoner; fault is the number of the one for faults. Where nothing happens but in
    the standing, box 0 takes over what it holds.
    """
    word = line[0]
    if word == "stop":
        return line
    if word in ("lay", "take") and not leads:
        return ("fault",)
    if word == "say":
        return ("say", line[1], *leads)
    if word == "go":
        return ("step", 0, standing[1], *leads)
    if word == "wall":
        return ("wall", 0, spot_for(standing[1], line[1]), *leads)
    if word == "lay":
        return ("copy", line[1] + 1, 0, *leads)
    if word == "take":
        return ("same", 0, line[1] + 1, *leads, fault)
    if word == "here" and len(leads) == 2:
        return ("same", 0, line[1] + 1, *leads)
    return ("copy", 0, 0, *leads)


def reckoner_of(mouse, side):
    """A reckoner with a box for the mouse and one for each stone, that does what the mouse does."""
    demand_start(mouse, side)
    if mouse.stones >= MOST_BOXES:
        raise Misfit("mouse")
    numbers = numbered_standings(mouse, side, MOST_LED)
    if numbers is None:
        raise TooMany("lines", MOST_LINES)
    fault = len(numbers)
    lines = []
    for standing in numbers:
        line = mouse.lines[standing[0]]
        leads = [numbers[other] for other in comes_to(standing, line)]
        lines.append(line_for(standing, line, leads, fault))
    lines.append(("fault",))
    return Reckoner(mouse.stones + 1, lines)
