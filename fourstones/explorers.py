"""Scripts that walk every floor, and count what they see."""

from fourstones.demands import demand_within
from fourstones.scripts import Script
from fourstones.tables import mouse_of
from fourstones.walk_texts import TO_SOUTH, judge_text, next_text

LEAST_COUNTED = 2
MOST_COUNTED = 12


def round_text(parts, deeds, last):
    """A script that goes once through the row: the deeds are done at each cell but home, then at home, then the last.

    The stone 0 marks home; the stones 1 to 3 are for the parts.
    """
    row = f"do next {deeds} while not here 0 middle {{ do next {deeds} }}"
    text = f"stones 4 {parts} mouse {{ {TO_SOUTH} lay 0 middle {row} take 0 {last} }}"
    return " ".join(text.split())


def explorer_text():
    """The text of the explorer."""
    return round_text(next_text(1, ""), "", "")


def explorer():
    """A script that walks every floor whole."""
    return Script(explorer_text())


def explorer_mouse():
    """The mouse of the explorer."""
    return mouse_of(explorer())


def say_text(many):
    """Deeds that say what the flag `count` is, of so many numbers."""
    return " ".join([f"if count = {number} {{ say {number} }}" for number in range(many)])


def counter(many):
    """A script that walks every floor whole, and says how many cells there are, modulo many."""
    demand_within(many, LEAST_COUNTED, MOST_COUNTED, "many")
    return Script(round_text(next_text(1, ""), f"up count {many}", say_text(many)))


def pillar_counter(many):
    """A script that walks every floor whole, and says how many pillars there are, modulo many."""
    demand_within(many, LEAST_COUNTED, MOST_COUNTED, "many")
    return Script(round_text(next_text(1, f"up count {many}"), "", say_text(many)))


def crown_judge():
    """A script that, begun at a south wall, its nose to the west, says 1 if this is a crown, 0 otherwise."""
    told = "if turns = 4 { say 1 } else { say 0 }"
    return Script(f"stones 4 {judge_text(1)} mouse {{ lay 1 left do judge take 1 {told} }}")
