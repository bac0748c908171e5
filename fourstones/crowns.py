"""Runs, and the crowns and threads by which the rims of a floor hang together."""

from fourstones.demands import demand_cell
from fourstones.floors import NORTH, SOUTH, demand_floor, demand_within_floor
from fourstones.rims import OUTER_TURNS, rim_of, rims_of, turns_round
from fourstones.walls import wall_taken


def run_of(floor, cell):
    """The cells to which one comes from the cell by north and south alone, from the north on."""
    demand_floor(floor, "floor")
    demand_cell(cell, "cell")
    demand_within_floor(floor, cell, "cell")
    place = tuple(cell)
    above = floor.near(place, NORTH)
    while above is not None:
        place = above
        above = floor.near(place, NORTH)
    run = []
    while place is not None:
        run.append(place)
        place = floor.near(place, SOUTH)
    return tuple(run)


def crown_in(rim):
    """Of the south walls of a rim round a pillar the westmost of the highest ones."""
    souths = [wall for wall in rim if wall[2] == SOUTH]
    return min(souths, key=lambda place: (-place[1], place[0]))


def is_crown(floor, wall):
    """Whether the wall is the crown of a pillar."""
    place = wall_taken(floor, wall)
    rim = rim_of(floor, place)
    return turns_round(rim) != OUTER_TURNS and crown_in(rim) == place


def crowns_of(floor):
    """All crowns, ascending."""
    return tuple(sorted([crown_in(rim) for rim in rims_of(floor)[1:]]))


def far_end(floor, crown):
    """The other end of the thread of a crown: the north wall of the crown's run."""
    x, y, _ = crown
    top = run_of(floor, (x, y))[0]
    return (*top, NORTH)


def threads_of(floor):
    """For each end of each thread the other one."""
    threads = {}
    for crown in crowns_of(floor):
        top = far_end(floor, crown)
        threads[crown] = top
        threads[top] = crown
    return threads


def thread_at(floor, wall):
    """The other end of the thread of which the wall is an end, None if it is none."""
    place = wall_taken(floor, wall)
    x, y, _ = place
    run = run_of(floor, (x, y))
    top = (*run[0], NORTH)
    bottom = (*run[-1], SOUTH)
    # A thread lies along a whole run, so only the walls at both ends of one come into question.
    if place not in (top, bottom) or not is_crown(floor, bottom):
        return None
    return bottom if place == top else top


def hung_on(floor):
    """For each crown, ascending, it and the least wall of the rim on which its rim hangs."""
    leasts = {place: rim[0] for rim in rims_of(floor) for place in rim}
    return tuple([(crown, leasts[far_end(floor, crown)]) for crown in crowns_of(floor)])
