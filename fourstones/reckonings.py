"""Reckonings: a reckoner goes on a floor, line by line."""

from fourstones.begins import MOST_STEPS
from fourstones.demands import demand_cell, demand_within
from fourstones.errors import TooMany
from fourstones.floors import demand_floor, demand_within_floor
from fourstones.grounds import Ground, lines_done
from fourstones.judged import Ends, Rounds
from fourstones.reckoners import demand_reckoner


class Reckoning:
    """A reckoner set upon a floor, at first at its line 0; it changes as it goes."""

    def __init__(self, reckoner, floor, home):
        demand_reckoner(reckoner, "reckoner")
        demand_floor(floor, "floor")
        demand_cell(home, "home")
        demand_within_floor(floor, home, "home")
        self.reckoner = reckoner
        self.floor = floor
        self.home = tuple(home)
        self.ground = Ground(floor, home)
        self.line, self.boxes = first_stand_of(reckoner)
        self.steps = 0
        self.said = ()
        self.word = ""

    def __eq__(self, other):
        return (
            isinstance(other, Reckoning)
            and self.reckoner == other.reckoner
            and self.floor == other.floor
            and reckoning_state(self) == reckoning_state(other)
        )

    def advance(self):
        """Does a line, if the reckoning is not at its end; returns whether it goes on then."""
        self.forward(1)
        return self.word == ""

    def forward(self, many):
        """Does so many lines, or as many as there are till the end; returns how many."""
        demand_within(many, 0, MOST_STEPS, "many")
        if self.word != "":
            return 0
        done = 0
        said = []
        begin = (self.line, self.boxes)
        stand = begin
        word = ""
        for stand, number, word in lines_done(self.reckoner, self.ground, begin, many):
            done += 1
            if number is not None:
                said.append(number)
        self.line, self.boxes = stand
        self.steps += done
        self.word = word
        # As with trips: a longer tuple once for all that was said.
        if said:
            self.said = (*self.said, *said)
        return done

    def copy(self):
        """Another reckoning, equal to this one."""
        other = Reckoning(self.reckoner, self.floor, self.home)
        other.line = self.line
        other.boxes = self.boxes
        other.steps = self.steps
        other.said = self.said
        other.word = self.word
        return other


def first_stand_of(reckoner):
    """The stand at the begin: line 0, each box at home."""
    return 0, (0,) * reckoner.boxes


def reckoning_state(reckoning):
    """All attributes of a reckoning but the reckoner and the floor."""
    return (
        reckoning.home, reckoning.boxes, reckoning.line, reckoning.steps, reckoning.said, reckoning.word,
    )


def demand_reckoning(reckoner, floor, home, most):
    """Raises what is raised for a reckoner that is to go on for at most so many steps."""
    demand_reckoner(reckoner, "reckoner")
    demand_floor(floor, "floor")
    demand_cell(home, "home")
    demand_within(most, 1, MOST_STEPS, "most")
    demand_within_floor(floor, home, "home")


def judged_reckoning(reckoner, floor, home, most):
    """The Ends of the reckoner, or the Rounds of its first stand that comes again."""
    demand_reckoning(reckoner, floor, home, most)
    ground = Ground(floor, home)
    begin = first_stand_of(reckoner)
    numbers = {begin: 0}
    many = 0
    for stand, _, word in lines_done(reckoner, ground, begin, most):
        many += 1
        if word != "":
            return Ends(word, many)
        if stand in numbers:
            return Rounds(numbers[stand], many - numbers[stand])
        numbers[stand] = many
    raise TooMany("steps", most)


def told_by(reckoner, floor, home, most):
    """The word with which the reckoner ends, and the numbers that it said."""
    demand_reckoning(reckoner, floor, home, most)
    ground = Ground(floor, home)
    begin = first_stand_of(reckoner)
    said = []
    ending = ""
    for _, number, ending in lines_done(reckoner, ground, begin, most):
        if number is not None:
            said.append(number)
    if ending == "":
        raise TooMany("steps", most)
    return ending, tuple(said)
