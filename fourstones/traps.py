"""Floors on which a mouse fails, and the least of them."""

from fourstones.begins import MOST_STEPS
from fourstones.checks import is_cell, is_side, is_within
from fourstones.demands import demand_within
from fourstones.errors import BadText
from fourstones.floors import Floor, neighbour
from fourstones.mice import demand_mouse
from fourstones.papers import Denial, Paper, is_named
from fourstones.stands import first_stand, steps_from

MOST_GROWN = 7
MOST_SEARCHED = 5


class Trap(Denial):
    """The denial: a floor, told by its text, a cell and a side from which the mouse fails."""

    def __init__(self, floor, cell, side):
        super().__init__("trap", floor, cell, side)
        self.floor = self.parts[0]
        self.cell = self.parts[1]
        self.side = self.parts[2]


class Free(Paper):
    """The paper of a mouse that no floor of up to so many cells traps."""

    def __init__(self, many):
        super().__init__("free", many)
        self.many = self.parts[0]


def grown_floors(floors):
    """All floors of one cell more than these, which are all of their size; ascending by their texts."""
    found = {}
    for floor in floors:
        for cell in floor.cells:
            for side in range(4):
                near = neighbour(cell, side)
                if not floor.has(near):
                    larger = Floor([*floor.cells, near])
                    found[str(larger)] = larger
    return [found[text] for text in sorted(list(found))]


def floors_of(many):
    """All floors of so many cells, ascending by their texts."""
    demand_within(many, 1, MOST_GROWN, "many")
    floors = [Floor([(0, 0)])]
    for _ in range(many - 1):
        floors = grown_floors(floors)
    return tuple(floors)


def shows_whole(mouse, floor, cell, side, most):
    """Whether within so many steps the mouse shows that it walks the floor whole."""
    begin = first_stand(mouse.stones, cell, side)
    seen = {begin[0]: True}
    last = begin
    ending = ""
    for last, _, ending in steps_from(mouse, floor, begin, most):
        seen[last[0]] = True
    return ending == "stop" and last[0] == begin[0] and last[3] == begin[3] and len(seen) == len(floor.cells)


def trap_on(mouse, floor, most):
    """The first trap on this floor, None if there is none."""
    for cell in floor.cells:
        for side in range(4):
            if not shows_whole(mouse, floor, cell, side, most):
                return Trap(str(floor), cell, side)
    return None


def first_trap(mouse, many, most):
    """The first trap on a floor of up to so many cells, None if there is none."""
    for cells in range(1, many + 1):
        for floor in floors_of(cells):
            trap = trap_on(mouse, floor, most)
            if trap is not None:
                return trap
    return None


def demand_search(mouse, many, most):
    """Raises what is raised for a search for traps."""
    demand_mouse(mouse, "mouse")
    demand_within(many, 1, MOST_SEARCHED, "many")
    demand_within(most, 1, MOST_STEPS, "most")


def trap_of(mouse, many, most):
    """The first Trap of the mouse, or the Free if there is none."""
    demand_search(mouse, many, most)
    trap = first_trap(mouse, many, most)
    return Free(many) if trap is None else trap


def floor_told(text):
    """The floor whose text any value is, None if it is none."""
    try:
        return Floor.read(text)
    except BadText:
        return None


def is_trap(mouse, many, most, trap):
    """Whether the mouse fails where the Trap tells it."""
    floor = floor_told(trap.floor)
    if floor is None or len(floor.cells) > many:
        return False
    if not is_cell(trap.cell) or not floor.has(trap.cell) or not is_side(trap.side):
        return False
    return not shows_whole(mouse, floor, trap.cell, trap.side, most)


def shows_trap(mouse, many, most, value):
    """Whether the value is a Trap that is right, or the Free if there is none."""
    demand_search(mouse, many, most)
    if isinstance(value, Trap) and is_named(value, "Trap"):
        return is_trap(mouse, many, most, value)
    if isinstance(value, Free) and is_named(value, "Free"):
        return is_within(value.many, many, many) and first_trap(mouse, many, most) is None
    return False
