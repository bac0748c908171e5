"""Standings of a mouse: its line, its nose, and where in a cell each stone lies, whatever the floor.

A standing is (line, nose, spots): for each stone IN_PAWS, the side of the cell at which it lies, or MIDDLE.
"""

from fourstones.mice import leads_of
from fourstones.stands import MIDDLE

IN_PAWS = 5


def first_standing(mouse, side):
    """The standing at the begin of a trip."""
    return (0, side, (IN_PAWS,) * mouse.stones)


def spot_for(nose, spot):
    """The side of the cell, or the middle, that is this spot for a nose to a side."""
    return spot if spot == MIDDLE else (nose + spot) % 4


def spots_with(spots, stone, spot):
    """Where all stones lie if one of them comes to a spot."""
    return (*spots[:stone], spot, *spots[stone + 1:])


def led(standing, lines):
    """The standings at these lines, nose and stones as they were."""
    _, nose, spots = standing
    return tuple([(to, nose, spots) for to in lines])


def turn_leads(standing, line):
    """The nose goes a quarter to the right."""
    _, nose, spots = standing
    return ((line[-1], (nose + 1) % 4, spots),)


def lay_leads(standing, line):
    """Only a stone in the paws can be laid."""
    _, nose, spots = standing
    if spots[line[1]] != IN_PAWS:
        return ()
    return ((line[-1], nose, spots_with(spots, line[1], spot_for(nose, line[2]))),)


def take_leads(standing, line):
    """Only a stone that lies can be taken."""
    _, nose, spots = standing
    if spots[line[1]] == IN_PAWS:
        return ()
    return ((line[-1], nose, spots_with(spots, line[1], IN_PAWS)),)


def here_leads(standing, line):
    """A stone that lies elsewhere in its cell is surely not seen."""
    _, nose, spots = standing
    if spots[line[1]] == spot_for(nose, line[2]):
        return led(standing, line[-2:])
    return led(standing, line[-1:])


def held_leads(standing, line):
    """The standing tells whether the stone is in the paws."""
    return led(standing, (line[-2] if standing[2][line[1]] == IN_PAWS else line[-1],))


def north_leads(standing, line):
    """The standing tells the nose."""
    return led(standing, (line[-2] if standing[1] == 0 else line[-1],))


LEADERS = {
    "turn": turn_leads,
    "lay": lay_leads,
    "take": take_leads,
    "here": here_leads,
    "held": held_leads,
    "north": north_leads,
}


def comes_to(standing, line):
    """The standings to which a mouse comes from one at this line; where both may be, that of YES is first."""
    word = line[0]
    if word not in LEADERS:
        return led(standing, leads_of(line))
    leader = LEADERS[word]
    return leader(standing, line)


def numbered_standings(mouse, side, most):
    """The standings to which the mouse comes, with numbers from 0 on; None if they are more than most."""
    first = first_standing(mouse, side)
    numbers = {first: 0}
    found = [first]
    done = 0
    while done < len(found):
        following = comes_to(found[done], mouse.lines[found[done][0]])
        for standing in following:
            if standing not in numbers:
                if len(found) == most:
                    return None
                numbers[standing] = len(found)
                found.append(standing)
        done += 1
    return numbers
