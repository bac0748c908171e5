"""Rims: the walls of a floor to which one comes from one of them by on."""

from fourstones.walls import RIGHT, led_from, turn_between, wall_taken, walls_of

OUTER_TURNS = 4


def rim_of(floor, wall):
    """The walls of the rim of this wall, which is first, then on and on."""
    first = wall_taken(floor, wall)
    rim = [first]
    place = led_from(floor, first, RIGHT)
    while place != first:
        rim.append(place)
        place = led_from(floor, place, RIGHT)
    return tuple(rim)


def length_of(floor, wall):
    """How many walls the rim of this wall has."""
    return len(rim_of(floor, wall))


def turns_round(rim):
    """How many more right turns than left ones are made on the way round this rim."""
    return sum([turn_between(rim[at - 1], rim[at]) for at in range(len(rim))])


def turns_of(floor, wall):
    """The turns of the rim of this wall."""
    return turns_round(rim_of(floor, wall))


def is_outer(floor, wall):
    """Whether the wall lies on the outer rim."""
    return turns_of(floor, wall) == OUTER_TURNS


def rims_of(floor):
    """All rims, each from its least wall on: the outer one, then the others, ascending."""
    found = {}
    outer = []
    others = []
    for wall in walls_of(floor):
        if wall not in found:
            rim = rim_of(floor, wall)
            found.update({place: True for place in rim})
            if turns_round(rim) == OUTER_TURNS:
                outer.append(rim)
            else:
                others.append(rim)
    return (*outer, *others)


def pillars_of(floor):
    """How many pillars the floor has: each but the outer rim goes round one."""
    return len(rims_of(floor)) - 1
