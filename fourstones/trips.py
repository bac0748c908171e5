"""Trips: a mouse walks on a floor, line by line."""

from fourstones.begins import MOST_STEPS, demand_fitting_begin, demand_walk
from fourstones.demands import demand_within
from fourstones.errors import BadTrip, TooMany
from fourstones.mice import demand_mouse
from fourstones.stands import first_stand, steps_from


class Trip:
    """A trip of a mouse on a floor, at first at its beginning; it changes as it goes."""

    def __init__(self, mouse, floor, cell, side):
        demand_mouse(mouse, "mouse")
        demand_fitting_begin(floor, cell, side)
        self.mouse = mouse
        self.floor = floor
        self.cell, self.nose, self.line, self.stones = first_stand(mouse.stones, cell, side)
        self.steps = 0
        self.said = ()
        self.word = ""

    def __eq__(self, other):
        return (
            isinstance(other, Trip)
            and self.mouse == other.mouse
            and self.floor == other.floor
            and state_of(self) == state_of(other)
        )

    def advance(self):
        """Makes a step, if the trip is not at its end; returns whether it goes on then."""
        self.forward(1)
        return self.word == ""

    def forward(self, many):
        """Makes so many steps, or as many as there are till the end; returns how many."""
        demand_within(many, 0, MOST_STEPS, "many")
        if self.word != "":
            return 0
        made = 0
        said = []
        begin = (self.cell, self.nose, self.line, self.stones)
        stand = begin
        word = ""
        for stand, deed, word in steps_from(self.mouse, self.floor, begin, many):
            made += 1
            if deed is not None and deed[0] == "say":
                said.append(deed[1])
        self.cell, self.nose, self.line, self.stones = stand
        self.steps += made
        self.word = word
        # A longer tuple is made for all that was said at once: one for each number would take long.
        if said:
            self.said = (*self.said, *said)
        return made

    def copy(self):
        """Another trip, equal to this one."""
        other = Trip(self.mouse, self.floor, self.cell, self.nose)
        other.line = self.line
        other.stones = self.stones
        other.steps = self.steps
        other.said = self.said
        other.word = self.word
        return other


def state_of(trip):
    """All that changes of a trip."""
    return (trip.cell, trip.nose, trip.line, trip.stones, trip.steps, trip.said, trip.word)


def demand_trip(value, part):
    """Raises BadTrip(part) for no trip."""
    if not isinstance(value, Trip):
        raise BadTrip(part)


def deeds_of(mouse, floor, cell, side, most):
    """The deeds of a trip till its end, in order."""
    demand_mouse(mouse, "mouse")
    demand_walk(floor, cell, side, most)
    begin = first_stand(mouse.stones, cell, side)
    deeds = []
    word = ""
    for _, deed, word in steps_from(mouse, floor, begin, most):
        if deed is not None:
            deeds.append(deed)
    if word == "":
        raise TooMany("steps", most)
    return tuple(deeds)


def stand_text(trip):
    """Where the trip is, as a text: cell, nose, line, steps, then each stone, then the word."""
    demand_trip(trip, "trip")
    rows = [(*trip.cell, trip.nose, trip.line, trip.steps)]
    rows.extend([("-",) if place is None else place for place in trip.stones])
    rows.append((trip.word if trip.word != "" else "-",))
    return " / ".join([" ".join([str(item) for item in row]) for row in rows])
