"""Scripts led to tables: the least mouse that makes the looks and deeds of a script."""

from fourstones.alikes import least_lines
from fourstones.errors import TooMany
from fourstones.forms import MOST_LINES
from fourstones.mice import Mouse, head_of, leads_of
from fourstones.script_places import SILENT, place_behind
from fourstones.scripts import demand_script

# The number of no line: where a script goes on for ever, but neither looks nor does anything.
ENDLESS = -1
# The places that change a flag.
CHANGING = ("set", "up")


class Unfolding:
    """The moments of a script: its places, each with the flags and with the places where the begun parts go on.

    Moments at which it looks, does something or stops have numbers, in the order in which they are found; a silent
    moment has the number of the one of these to which it leads.
    """

    def __init__(self, script):
        self.places = script.places
        self.flags = script.flags
        self.numbers = {}
        self.found = []

    def number_from(self, place, levels, backs):
        """The number of the moment of this place; of the one to which it leads if it is silent."""
        flags = {flag: levels[at] for at, flag in enumerate(self.flags)}
        begun = list(backs)
        way = []
        moment = (place, levels, backs)
        while moment not in self.numbers:
            row = self.places[moment[0]]
            if row[0] not in SILENT:
                self.numbers[moment] = len(self.found)
                self.found.append(moment)
            else:
                # Whoever comes by this moment once more, on this very way, is on an endless one.
                self.numbers[moment] = ENDLESS
                way.append(moment)
                following = place_behind(row, flags, begun)
                if row[0] in CHANGING:
                    levels = tuple(list(flags.values()))
                moment = (following, levels, tuple(begun))
        number = self.numbers[moment]
        for passed in way:
            self.numbers[passed] = number
        return number

    def line_of(self, moment):
        """The line of a moment that is not silent; it leads to numbers of moments."""
        place, levels, backs = moment
        row = self.places[place]
        leads = [self.number_from(to, levels, backs) for to in leads_of(row)]
        return (*head_of(row), *leads)


def lines_of(script):
    """The lines of a mouse, of any number, that makes the looks and deeds of the script; line 0 comes first."""
    moments = Unfolding(script)
    # The first moment that is found has the number 0; if none is, all goes on for ever from the begin.
    moments.number_from(script.begin, (0,) * len(script.flags), ())
    lines = []
    while len(lines) < len(moments.found):
        lines.append(moments.line_of(moments.found[len(lines)]))
    # What goes on for ever looks to the north for ever.
    last = len(lines)
    lines.append(("north", last, last))
    told = []
    for line in lines:
        leads = [last if to == ENDLESS else to for to in leads_of(line)]
        told.append((*head_of(line), *leads))
    return told


def mouse_of(script):
    """The least mouse that makes the looks and deeds of the script."""
    demand_script(script, "script")
    lines = least_lines(lines_of(script), MOST_LINES)
    if lines is None:
        raise TooMany("lines", MOST_LINES)
    return Mouse(script.stones, lines)
