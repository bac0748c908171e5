"""What is demanded wherever a walk begins: a floor, a cell of it, a side, and often the most steps."""

from fourstones.demands import demand_cell, demand_within
from fourstones.floors import demand_floor, demand_within_floor

MOST_STEPS = 100000


def demand_begin(floor, cell, side):
    """Raises what is raised for each of the three alone."""
    demand_floor(floor, "floor")
    demand_cell(cell, "cell")
    demand_within(side, 0, 3, "side")


def demand_fitting_begin(floor, cell, side):
    """Raises what is raised for the three, also for a cell that is none of the floor."""
    demand_begin(floor, cell, side)
    demand_within_floor(floor, cell, "cell")


def demand_walk(floor, cell, side, most):
    """The same for a walk of at most so many steps; a wrong most comes ahead of what does not fit."""
    demand_begin(floor, cell, side)
    demand_within(most, 1, MOST_STEPS, "most")
    demand_within_floor(floor, cell, "cell")
