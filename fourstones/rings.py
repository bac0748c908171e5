"""The ring of all walls of a floor, and the row of its cells."""

from fourstones.crowns import run_of, thread_at, threads_of
from fourstones.demands import demand_cell, demand_within
from fourstones.floors import NORTH, demand_floor, demand_within_floor
from fourstones.papers import Paper
from fourstones.walls import LEFT, RIGHT, led_from, wall_taken, walls_of


class Ring(Paper):
    """The paper of a ring: its walls in the order of next."""

    def __init__(self, walls):
        Paper.__init__(self, "ring", walls)
        self.walls = self.parts[0]


def changed_over(floor, wall):
    """The other end of the thread of which the wall is an end, or the wall itself."""
    other = thread_at(floor, wall)
    return wall if other is None else other


def next_from(floor, wall):
    """The wall to which next leads."""
    place = wall_taken(floor, wall)
    return led_from(floor, changed_over(floor, place), RIGHT)


def last_from(floor, wall):
    """The wall from which next leads to this one."""
    place = wall_taken(floor, wall)
    return changed_over(floor, led_from(floor, place, LEFT))


def ring_of(floor, wall):
    """All walls of the floor in the order of next, this one first."""
    first = wall_taken(floor, wall)
    # All threads at once: to ask for the thread at each wall would go round its rim each time.
    threads = threads_of(floor)
    ring = [first]
    place = led_from(floor, threads.get(first, first), RIGHT)
    while place != first:
        ring.append(place)
        place = led_from(floor, threads.get(place, place), RIGHT)
    return tuple(ring)


def ring_from_least(floor):
    """The ring from the least wall on."""
    return ring_of(floor, walls_of(floor)[0])


def row_from(floor, home):
    """The row from home, which is a cell of the floor."""
    cells = []
    for x, y, side in ring_from_least(floor):
        if side == NORTH:
            cells.extend(run_of(floor, (x, y)))
    at = cells.index(tuple(home))
    return tuple(cells[at:] + cells[:at])


def row_of(floor, home):
    """All cells of the floor in their order, home first."""
    demand_floor(floor, "floor")
    demand_cell(home, "home")
    demand_within_floor(floor, home, "home")
    return row_from(floor, home)


def number_of(floor, home, cell):
    """The place of the cell in the row from home."""
    demand_floor(floor, "floor")
    demand_cell(home, "home")
    demand_cell(cell, "cell")
    demand_within_floor(floor, home, "home")
    demand_within_floor(floor, cell, "cell")
    return row_from(floor, home).index(tuple(cell))


def cell_at(floor, home, number):
    """The cell with this number in the row from home."""
    demand_floor(floor, "floor")
    demand_cell(home, "home")
    demand_within(number, 0, len(floor.cells) - 1, "number")
    demand_within_floor(floor, home, "home")
    return row_from(floor, home)[number]


def told_ring(floor):
    """The paper of the ring from the least wall on."""
    return Ring(ring_from_least(floor))
