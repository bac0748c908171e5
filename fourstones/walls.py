"""Walls of a floor, and how one goes along them with the wall at the left hand."""

from fourstones.checks import is_cell, is_side
from fourstones.demands import demand_within
from fourstones.errors import BadWall
from fourstones.floors import demand_floor

RIGHT = 1
LEFT = -1
MOST_GOING = 5000


def walls_of(floor):
    """All walls of the floor, ascending."""
    demand_floor(floor, "floor")
    return tuple([(*cell, side) for cell in floor.cells for side in range(4) if floor.near(cell, side) is None])


def walled(floor, wall):
    """Whether any value is a wall of the floor."""
    demand_floor(floor, "floor")
    if not isinstance(wall, (list, tuple)) or len(wall) != 3:
        return False
    x, y, side = wall
    if not is_cell((x, y)) or not is_side(side):
        return False
    return floor.has((x, y)) and floor.near((x, y), side) is None


def wall_taken(floor, wall):
    """The wall as a tuple, behind the errors that are raised for both arguments."""
    if not walled(floor, wall):
        raise BadWall("wall")
    return tuple(wall)


def led_from(floor, wall, turn):
    """The wall to which on leads from a wall of the floor, if turn is RIGHT; back, if it is LEFT.

    Back is on, seen in a mirror: one goes with the wall at the right hand.
    """
    x, y, side = wall
    look = (side + turn) % 4
    ahead = floor.near((x, y), look)
    if ahead is None:
        return (x, y, look)
    around = floor.near(ahead, side)
    if around is None:
        return (*ahead, side)
    return (*around, (side - turn) % 4)


def on_from(floor, wall):
    """The wall to which on leads."""
    return led_from(floor, wall_taken(floor, wall), RIGHT)


def back_from(floor, wall):
    """The wall to which back leads."""
    return led_from(floor, wall_taken(floor, wall), LEFT)


def turn_between(wall, following):
    """The turn on the way from a wall to the one to which on leads: the side turns along."""
    quarters = (following[2] - wall[2]) % 4
    return LEFT if quarters == 3 else quarters


def turn_at(floor, wall):
    """1 if one turns right on the way to where on leads, -1 if left, 0 if neither."""
    place = wall_taken(floor, wall)
    return turn_between(place, led_from(floor, place, RIGHT))


def going_on(floor, wall, many):
    """So many walls, this one first, then on and on, one by one."""
    place = wall_taken(floor, wall)
    demand_within(many, 0, MOST_GOING, "many")
    for _ in range(many):
        yield place
        place = led_from(floor, place, RIGHT)
