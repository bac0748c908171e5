"""Reckoners led to scripts and mice, which have a stone for each box, one for home and three for the way."""

from fourstones.demands import demand_cell, demand_within
from fourstones.errors import TooMany
from fourstones.floors import demand_within_floor
from fourstones.reckoners import demand_reckoner
from fourstones.rings import row_from
from fourstones.scripts import Script
from fourstones.tables import mouse_of
from fourstones.trips import demand_trip
from fourstones.walk_texts import TO_SOUTH, next_text

MOST_BOXES = 8
MOST_LINES = 60
# While a line is done the nose points south: what is at each side of the world, and how the mouse turns there and back.
SPOTS = ("behind", "left", "ahead", "right")
TURNS = ("about", "left", "", "right")
TURNS_BACK = ("about", "right", "", "left")


def box_parts(box):
    """The parts for a box: `find` goes to its stone, `raise` brings the stone on by a cell.

    While the stone is brought on it is in the paws; so `next` stands at one place for the whole way, and the table of
    the script has the lines for it once.
    """
    find = f"part find{box} {{ while not here {box} middle {{ do next }} }}"
    rise = f"while not held {box} {{ if here {box} middle {{ take {box} }} do next }} lay {box} middle"
    return f"{find} part raise{box} {{ {rise} }}"


def set_text(line):
    """The deed that tells which line comes."""
    return f"set line {line}"


def copy_text(box, other):
    """Brings the stone of a box to that of another one."""
    return "" if box == other else f"do find{box} take {box} do find{other} lay {box} middle"


def step_text(box, side):
    """Brings the stone of a box to the cell beside; where there is a wall it stays, and the mouse goes against it."""
    there = f"{TURNS[side]} if not wall ahead {{ take {box} }} go"
    return f"do find{box} {there} lay {box} middle {TURNS_BACK[side]}"


def deed_text(line):
    """What a line of a reckoner does, that leads to one line."""
    if line[0] == "up":
        return f"do raise{line[1]}"
    if line[0] == "copy":
        return copy_text(line[1], line[2])
    if line[0] == "step":
        return step_text(line[1], line[2])
    return f"say {line[1]}"


def look_text(line, boxes):
    """The look that a line of a reckoner asks for, at the stone of its box."""
    if line[0] == "same":
        return f"here {line[2]} middle"
    if line[0] == "wall":
        return f"wall {SPOTS[line[2]]}"
    return f"here {boxes} middle"


def line_text(line, boxes):
    """The deeds for a line of a reckoner with so many boxes."""
    if line[0] == "stop":
        return "stop"
    if line[0] == "fault":
        # The first of the three stones for the way is in the paws now.
        return f"take {boxes + 1}"
    if line[0] in ("same", "wall", "home"):
        look = look_text(line, boxes)
        return f"do find{line[1]} if {look} {{ {set_text(line[-2])} }} else {{ {set_text(line[-1])} }}"
    return f"{deed_text(line)} {set_text(line[-1])}"


def script_of(reckoner):
    """A script that does on every floor what the reckoner does."""
    demand_reckoner(reckoner, "reckoner")
    boxes = reckoner.boxes
    if boxes > MOST_BOXES:
        raise TooMany("boxes", MOST_BOXES)
    if len(reckoner.lines) > MOST_LINES:
        raise TooMany("lines", MOST_LINES)
    parts = " ".join([next_text(boxes + 1, ""), *[box_parts(box) for box in range(boxes)]])
    begin = " ".join([TO_SOUTH, *[f"lay {stone} middle" for stone in range(boxes + 1)]])
    rows = [f"if line = {at} {{ {line_text(line, boxes)} }}" for at, line in enumerate(reckoner.lines)]
    # The flag is never so great: a script that is led so ends by what its lines do alone.
    going = " ".join([f"while not line = {MOST_LINES} {{", *rows, "}"])
    text = f"stones {boxes + 4} {parts} mouse {{ {begin} {going} }}"
    # Deeds that are empty leave two blanks.
    return Script(" ".join(text.split()))


def mouse_for(reckoner):
    """The least mouse of the script of the reckoner."""
    return mouse_of(script_of(reckoner))


def boxes_in(trip, boxes, home):
    """For each of so many stones the number of the cell in which it lies, None for one in the paws."""
    demand_trip(trip, "trip")
    demand_within(boxes, 0, trip.mouse.stones, "boxes")
    demand_cell(home, "home")
    demand_within_floor(trip.floor, home, "home")
    row = row_from(trip.floor, home)
    return tuple([None if place is None else row.index(place[:2]) for place in trip.stones[:boxes]])
