"""Which papers of judged trips are right."""

from fourstones.begins import MOST_STEPS, demand_fitting_begin
from fourstones.checks import is_within
from fourstones.judged import Ends, Rounds
from fourstones.mice import demand_mouse
from fourstones.papers import is_named
from fourstones.stands import first_stand, steps_from


def shows_ends(mouse, floor, first, paper):
    """Whether the trip from this stand ends with the word and behind the steps that the Ends tells."""
    if not isinstance(paper.ending, str) or not is_within(paper.steps, 1, MOST_STEPS):
        return False
    most = paper.steps
    many = 0
    ending = ""
    for step in steps_from(mouse, floor, first, most):
        ending = step[2]
        many += 1
    return many == most and ending != "" and ending == paper.ending


def shows_rounds(mouse, floor, first, paper):
    """Whether both stands that the Rounds tells are there, and are the same."""
    if not is_within(paper.begin, 0, MOST_STEPS) or not is_within(paper.long, 1, MOST_STEPS - paper.begin):
        return False
    most = paper.begin + paper.long
    many = 0
    kept = first
    last = first
    for last, _, word in steps_from(mouse, floor, first, most):
        # Behind its end a trip has no stand any more.
        if word != "":
            return False
        many += 1
        if many == paper.begin:
            kept = last
    return last == kept


def shows_trip(mouse, floor, cell, side, value):
    """Whether the value is an Ends or a Rounds that is right for the trip."""
    demand_mouse(mouse, "mouse")
    demand_fitting_begin(floor, cell, side)
    first = first_stand(mouse.stones, cell, side)
    if isinstance(value, Ends) and is_named(value, "Ends"):
        return shows_ends(mouse, floor, first, value)
    if isinstance(value, Rounds) and is_named(value, "Rounds"):
        return shows_rounds(mouse, floor, first, value)
    return False
