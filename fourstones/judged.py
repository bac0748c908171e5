"""Whether a trip ends or goes round, what is seen on it, and whether it walks whole."""

from fourstones.begins import demand_walk
from fourstones.errors import TooMany
from fourstones.floors import demand_floor
from fourstones.mice import demand_mouse
from fourstones.papers import Denial, Paper
from fourstones.stands import first_stand, steps_from


class Ends(Paper):
    """The paper of a trip that ends: its word, and how many steps it makes in all."""

    def __init__(self, ending, steps):
        super().__init__("ends", ending, steps)
        self.ending = self.parts[0]
        self.steps = self.parts[1]


class Rounds(Denial):
    """The denial of an end: the stand begin comes again behind long steps."""

    def __init__(self, begin, long):
        super().__init__("rounds", begin, long)
        self.begin = self.parts[0]
        self.long = self.parts[1]


def followed(mouse, floor, begin, most):
    """The paper of the trip from a stand, its stands with their numbers, and the last one."""
    numbers = {begin: 0}
    many = 0
    for stand, _, word in steps_from(mouse, floor, begin, most):
        many += 1
        if word != "":
            return Ends(word, many), numbers, stand
        if stand in numbers:
            return Rounds(numbers[stand], many - numbers[stand]), numbers, stand
        numbers[stand] = many
    raise TooMany("steps", most)


def judged_trip(mouse, floor, cell, side, most):
    """The Ends or the Rounds of the trip."""
    demand_mouse(mouse, "mouse")
    demand_walk(floor, cell, side, most)
    return followed(mouse, floor, first_stand(mouse.stones, cell, side), most)[0]


def cells_among(stands):
    """The cells of some stands, ascending."""
    return tuple(sorted({stand[0] for stand in stands}))


def seen_in(mouse, floor, cell, side, most):
    """The cells that are ever seen on the trip, ascending."""
    demand_mouse(mouse, "mouse")
    demand_walk(floor, cell, side, most)
    return cells_among(followed(mouse, floor, first_stand(mouse.stones, cell, side), most)[1])


def walks_whole(mouse, floor, cell, side, most):
    """Whether the trip stops where it began, all stones in the paws, and each cell was seen."""
    demand_mouse(mouse, "mouse")
    demand_walk(floor, cell, side, most)
    begin = first_stand(mouse.stones, cell, side)
    paper, stands, last = followed(mouse, floor, begin, most)
    if not isinstance(paper, Ends) or paper.ending != "stop":
        return False
    if last[0] != begin[0] or last[3] != begin[3]:
        return False
    return cells_among(stands) == floor.cells


def stands_bound(mouse, floor):
    """How many stands a mouse can have on a floor at most."""
    demand_mouse(mouse, "mouse")
    demand_floor(floor, "floor")
    bound = len(floor.cells) * 4 * len(mouse.lines)
    for _ in range(mouse.stones):
        bound = bound * (1 + 5 * len(floor.cells))
    return bound
