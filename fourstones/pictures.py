"""Pictures of trips, and films, which are pictures one behind another."""

from fourstones.begins import demand_begin
from fourstones.demands import demand_within
from fourstones.mice import demand_mouse
from fourstones.trips import Trip, demand_trip

MOST_PICTURES = 200
NOSES = "^>v<"
STONES = "0123456789ab"


def drawn_over(text, trip):
    """The text of the trip's floor with the mouse and the stones on it."""
    height = trip.floor.height
    across = trip.floor.width + 1
    signs = list(text)
    # What is drawn later covers what was drawn ahead of it: the least stone of a cell comes last, then the mouse.
    for stone in range(len(trip.stones) - 1, -1, -1):
        if trip.stones[stone] is not None:
            x, y, _ = trip.stones[stone]
            signs[(height - 1 - y) * across + x] = STONES[stone]
    x, y = trip.cell
    signs[(height - 1 - y) * across + x] = NOSES[trip.nose]
    return "".join(signs)


def picture_of(trip):
    """The text of the floor of a trip with the mouse and the stones on it."""
    demand_trip(trip, "trip")
    return drawn_over(str(trip.floor), trip)


def film_of(mouse, floor, cell, side, steps):
    """The pictures at the beginning of a trip and behind each of so many steps, or as many as there are."""
    demand_mouse(mouse, "mouse")
    demand_begin(floor, cell, side)
    demand_within(steps, 0, MOST_PICTURES, "steps")
    trip = Trip(mouse, floor, cell, side)
    text = str(floor)
    film = [drawn_over(text, trip)]
    for _ in range(steps):
        if trip.forward(1) == 0:
            break
        film.append(drawn_over(text, trip))
    return tuple(film)
