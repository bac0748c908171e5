"""Pictures and films of trips."""

import inspect
import time
import unittest
from copy import deepcopy

from fourstones import pictures
from fourstones.explorers import explorer_mouse
from fourstones.floors import Floor
from fourstones.mice import Mouse
from fourstones.pictures import film_of, picture_of
from fourstones.trips import Trip
from helpers import GREAT, ODD, some_floors, told_error
from test_trips import NO_CELLS, NO_FLOORS, NO_MICE, NO_SIDES, OUTSIDE
from walkers import NO_NUMBERS, some_mouse

LAYER = Mouse(12, [("lay", 11, 4, 1), ("lay", 3, 0, 2), ("go", 3), ("lay", 11, 0, 3)])
STOP, SPINNER = Mouse(0, [("stop",)]), Mouse(0, [("turn", 0)])
HALL, THREE = Floor.read("### #.# ###"), Floor.read("###")
NO_STEPS = (*NO_NUMBERS, -1, 201, 10 ** 5000)


def drawn(trip):
    """The picture, by going over all cells."""
    rows = []
    for y in reversed(range(trip.floor.height)):
        row = ""
        for x in range(trip.floor.width):
            here = [stone for stone, lies in enumerate(trip.stones) if lies and lies[:2] == (x, y)]
            if (x, y) not in set(trip.floor.cells):
                row += "."
            elif trip.cell == (x, y):
                row += {0: "^", 1: ">", 2: "v", 3: "<"}[trip.nose]
            else:
                row += "0123456789ab"[min(here)] if here else "#"
        rows.append(row)
    return " ".join(rows)


class PictureTest(unittest.TestCase):
    def test_examples(self):
        seen = Trip(LAYER, Floor.read("##. .##"), (0, 1), 1)
        self.assertEqual(
            [picture_of(seen), seen.forward(9), seen.word, picture_of(seen)], [">#. .##", 4, "fault", "3>. .##"],
        )
        self.assertEqual(film_of(LAYER, Floor.read("## .#"), (1, 0), 0, 2), ("## .^", "## .^", "## .^"))
        self.assertEqual(film_of(LAYER, Floor.read("## .#"), (1, 0), 0, 200)[2:], ("## .^", "#^ .3", "#^ .3"))

    def test_interface(self):
        asked = {"picture_of": ["trip"], "film_of": ["mouse", "floor", "cell", "side", "steps"]}
        for name, parameters in asked.items():
            told = getattr(pictures, name)
            self.assertEqual((told.__module__, list(inspect.signature(told).parameters)), ("fourstones.pictures", parameters))

    def test_to_each_side(self):
        for side, sign in enumerate("^>v<"):
            self.assertEqual(picture_of(Trip(STOP, HALL, (2, 1), side)), f"### #.{sign} ###")
            self.assertEqual(picture_of(trip=Trip(STOP, Floor.read("#"), (0, 0), side)), sign)

    def test_stones(self):
        for stones in range(1, 13):
            for stone in range(stones):
                trip = Trip(Mouse(stones, [("lay", stone, stone % 5, 1), ("go", 2), ("stop",)]), THREE, (0, 0), 1)
                # A stone in the paws, or in the mouse's cell, is not seen.
                self.assertEqual((picture_of(trip), trip.advance(), picture_of(trip)), (">##", True, ">##"))
                trip.forward(2)
                self.assertEqual(picture_of(trip), "0123456789ab"[stone] + ">#")

    def test_several_in_one_cell(self):
        for first in range(12):
            for second in range(12):
                if first != second:
                    mouse = Mouse(12, [("lay", first, 1, 1), ("lay", second, 4, 2), ("go", 3), ("stop",)])
                    trip = Trip(mouse, THREE, (1, 0), 1)
                    trip.forward(9)
                    self.assertEqual(picture_of(trip), "#" + "0123456789ab"[min(first, second)] + ">")

    def test_all_twelve(self):
        lines = []
        for stone in (11, 3, 10, 0, 9, 8, 7, 6, 5, 4, 2, 1):
            lines += [("lay", stone, stone % 5, len(lines) + 1), ("go", len(lines) + 2)]
        trip = Trip(Mouse(12, lines[:-1] + [("go", 23)]), Floor([(x, 0) for x in range(13)]), (0, 0), 1)
        trip.forward(100)
        self.assertEqual(picture_of(trip), "b3a09876542" + "1>")

    def test_drawn_trips(self):
        floors = some_floors()
        for seed in range(300):
            floor = floors[seed % len(floors)]
            mouse, cell, side = some_mouse(seed, seed % 13, 1 + seed % 19), floor.cells[seed % len(floor.cells)], seed % 4
            trip = Trip(mouse, floor, cell, side)
            told = [drawn(trip)]
            while len(told) <= 60 and trip.word == "":
                trip.advance()
                self.assertEqual(picture_of(trip), drawn(trip))
                told.append(drawn(trip))
            self.assertEqual(film_of(mouse, floor, list(cell), side, 60), tuple(told))
            self.assertEqual(film_of(mouse, floor, cell, side, steps=5), tuple(told[:6]))


class FilmTest(unittest.TestCase):
    def test_many_steps(self):
        for steps in (0, 1, 2, 199, 200):
            film = film_of(SPINNER, THREE, (1, 0), 3, steps)
            self.assertEqual(film, tuple(f"#{'^>v<'[(3 + at) % 4]}#" for at in range(steps + 1)))
            self.assertEqual(film_of(steps=steps, side=3, cell=[1, 0], floor=THREE, mouse=SPINNER), film)
            self.assertIs(type(film), tuple)

    def test_trips_that_end(self):
        # The step with which a trip ends is a step, too.
        self.assertEqual(film_of(STOP, THREE, (0, 0), 0, 0), ("^##",))
        self.assertEqual(film_of(STOP, THREE, (0, 0), 0, 200), ("^##", "^##"))
        self.assertEqual(film_of(Mouse(0, [("go", 0)]), THREE, (0, 0), 1, 200), (">##", "#>#", "##>", "##>"))


class ErrorTest(unittest.TestCase):
    def test_picture(self):
        trip = Trip(STOP, THREE, (0, 0), 0)
        for value in (*ODD, 0, STOP, THREE, str(THREE), vars(trip)):
            self.assertEqual(told_error(picture_of, value), ("BadTrip", "trip"))

    def test_film(self):
        for value in NO_MICE:
            self.assertEqual(told_error(film_of, value, None, None, None, None), ("BadMouse", "mouse"))
        for value in NO_FLOORS:
            self.assertEqual(told_error(film_of, STOP, value, None, None, None), ("BadFloor", "floor"))
        for value in NO_CELLS:
            self.assertEqual(told_error(film_of, STOP, THREE, value, None, None), ("BadCell", "cell"))
        for cell in ((0, 0), *OUTSIDE):
            for value in NO_SIDES:
                self.assertEqual(told_error(film_of, STOP, THREE, cell, value, None), ("BadNumber", "side"))
            for value in NO_STEPS:
                self.assertEqual(told_error(film_of, STOP, THREE, cell, 3, value), ("BadNumber", "steps"))
        for cell in OUTSIDE:
            self.assertEqual(told_error(film_of, STOP, THREE, cell, 3, 200), ("Misfit", "cell"))

    def test_nothing_changes(self):
        trip, cell = Trip(LAYER, THREE, (0, 0), 1), [0, 0]
        trip.forward(3)
        kept = deepcopy((trip.copy(), LAYER, THREE, cell))
        picture_of(trip)
        film_of(LAYER, THREE, cell, 1, 200)
        told_error(film_of, LAYER, THREE, cell, 1, 201)
        self.assertTrue((trip, LAYER, THREE, cell) == kept)


class GreatTest(unittest.TestCase):
    def test_in_a_short_time(self):
        begin = time.monotonic()
        for cells in GREAT.values():
            floor = Floor(cells)
            film = film_of(explorer_mouse(), floor, floor.cells[200], 2, 200)
            self.assertEqual(len(film), 201)
        self.assertLess(time.monotonic() - begin, 15)


if __name__ == "__main__":
    unittest.main()
