"""What the mouse of a script does on a floor."""

from fourstones.begins import demand_walk
from fourstones.errors import TooMany
from fourstones.papers import Paper
from fourstones.script_places import SILENT, place_behind
from fourstones.scripts import demand_script
from fourstones.stands import first_stand, step_along

# The places of a script that are no steps, so that any number of them may be done between two steps: each asking of a
# `while` is a step, though no line of a mouse does so.
STEPLESS = ("set", "up", "do", "back", "is")


class Play(Paper):
    """The paper of a script that was played: how it ended, its deeds, the numbers said, the last cell."""

    def __init__(self, ending, deeds, said, cell):
        super().__init__("play", ending, deeds, said, cell)
        self.ending = self.parts[0]
        self.deeds = self.parts[1]
        self.said = self.parts[2]
        self.cell = self.parts[3]


def done_place(script, floor, stand, flags, backs):
    """What is done at the place of a stand: the stand behind it, the deed, None for none, and the word of the end."""
    cell, nose, at, stones = stand
    row = script.places[at]
    if row[0] in SILENT:
        return (cell, nose, place_behind(row, flags, backs), stones), None, ""
    return step_along(floor, stand, row)


def played(script, floor, cell, side, most):
    """The Play of a script, if it ends within so many steps."""
    demand_script(script, "script")
    demand_walk(floor, cell, side, most)
    flags = {flag: 0 for flag in script.flags}
    backs = []
    deeds = []
    steps = 0
    stand = first_stand(script.stones, cell, side, script.begin)
    word = ""
    while word == "":
        if script.places[stand[2]][0] not in STEPLESS:
            if steps == most:
                raise TooMany("steps", most)
            steps += 1
        stand, deed, word = done_place(script, floor, stand, flags, backs)
        if deed is not None:
            deeds.append(deed)
    said = [deed[1] for deed in deeds if deed[0] == "say"]
    return Play(word, deeds, said, stand[0])
