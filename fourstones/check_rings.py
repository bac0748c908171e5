"""Which papers of rings are right."""

from fourstones.floors import demand_floor
from fourstones.papers import is_named
from fourstones.rings import Ring, ring_of
from fourstones.walls import walled


def shows_ring(floor, value):
    """Whether the value is a Ring of the ring of the floor, from any one of its walls on."""
    demand_floor(floor, "floor")
    if not isinstance(value, Ring) or not is_named(value, "Ring"):
        return False
    walls = value.walls
    if not isinstance(walls, tuple) or len(walls) == 0:
        return False
    # True is equal to 1 for Python, but tells no number, so it is not enough to compare.
    if not all([walled(floor, wall) for wall in walls]):
        return False
    return ring_of(floor, walls[0]) == walls
