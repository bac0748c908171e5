"""Which papers of rings are right."""

import inspect
import time
import unittest
from copy import deepcopy

from fourstones import check_rings
from fourstones.check_rings import shows_ring
from fourstones.floors import Floor
from fourstones.papers import Denial, Paper
from fourstones.rims import rim_of
from fourstones.rings import Ring, ring_of, told_ring
from helpers import GREAT, ODD, floors_up_to, namesake, ring_by_pieces, seen_walls, some_floors, told_error

COURT = Floor.read("### #.# ###")
HOOK = Floor.read("#. ##")


class BelowRing(Ring):
    """A class of its own, although it is below Ring."""


class CheckRingsTest(unittest.TestCase):
    def test_example(self):
        values = (
            told_ring(COURT), Ring(list(ring_of(COURT, (1, 2, 2)))), Ring(rim_of(COURT, (0, 0, 2))),
            Ring(ring_of(COURT, (0, 0, 2))[::-1]), None,
        )
        self.assertEqual([shows_ring(COURT, value) for value in values], [True, True, False, False, False])

    def test_interface(self):
        self.assertEqual(shows_ring.__module__, "fourstones.check_rings")
        self.assertEqual(list(inspect.signature(check_rings.shows_ring).parameters), ["floor", "value"])
        self.assertIs(shows_ring(value=told_ring(HOOK), floor=HOOK), True)

    def test_from_each_wall_on(self):
        for floor in floors_up_to(4) + some_floors():
            ring = ring_by_pieces(floor, seen_walls(floor)[0])
            for at in range(0, len(ring), 1 + len(ring) // 20):
                turned = ring[at:] + ring[:at]
                for walls in (turned, tuple(turned), [list(wall) for wall in turned], tuple(map(list, turned))):
                    self.assertIs(shows_ring(floor, Ring(walls)), True)

    def test_one_thing_wrong(self):
        for floor in [COURT, HOOK, *some_floors()[4:24]]:
            ring = ring_by_pieces(floor, seen_walls(floor)[0])
            for at in range(0, len(ring) - 1, 1 + len(ring) // 15):
                x, y, side = ring[at]
                exchanged = [*ring[:at], ring[at + 1], ring[at], *ring[at + 2:]]
                wrong = [
                    exchanged, ring[:at] + ring[at + 1:], ring[:at] + [ring[at]] + ring[at:], [*ring, ring[at]],
                    [*ring[:at], ring[at + 1], *ring[at + 1:]],
                    *([*ring[:at], (x, y, other), *ring[at + 1:]] for other in range(-1, 6) if other != side),
                    ring[::-1], ring + ring,
                ]
                for walls in wrong:
                    self.assertIs(shows_ring(floor, Ring(walls)), False)

    def test_rims_alone(self):
        for floor in some_floors():
            walls = seen_walls(floor)
            for wall in walls[::5]:
                rim = rim_of(floor, wall)
                self.assertIs(shows_ring(floor, Ring(rim)), len(rim) == len(walls))

    def test_ring_of_another_floor(self):
        for floor in (HOOK, Floor.read("#"), Floor.read("### ### ###")):
            self.assertIs(shows_ring(COURT, told_ring(floor)), False)
            self.assertIs(shows_ring(floor, told_ring(COURT)), False)

    def test_truths_are_no_numbers(self):
        ring = list(told_ring(HOOK).walls)
        for at, wall in enumerate(ring):
            for place, number in enumerate(wall):
                for other in (bool(number), float(number), str(number), None, (number,), number + 4, 10 ** 30):
                    changed = (*wall[:place], other, *wall[place + 1:])
                    self.assertIs(shows_ring(HOOK, Ring([*ring[:at], changed, *ring[at + 1:]])), False)

    def test_other_values(self):
        walls = told_ring(COURT).walls
        others = (
            *ODD, walls, list(walls), Ring, "ring", Paper("ring", walls), Denial("ring", walls), Paper("Ring", walls),
            BelowRing(walls), namesake("Ring", told_ring(COURT)), (told_ring(COURT),), {"walls": walls}, told_ring(HOOK),
        )
        for value in others:
            self.assertIs(shows_ring(COURT, value), False)
        for part in (*ODD, {0: 1}, dict.fromkeys(walls), set(walls), [walls], [*walls, None], walls[0], "walls", [[]]):
            self.assertIs(shows_ring(COURT, Ring(part)), False)

    def test_no_floor(self):
        for value in (*ODD, COURT.cells, told_ring(COURT)):
            for paper in (told_ring(COURT), None, Ring([])):
                self.assertEqual(told_error(shows_ring, value, paper), ("BadFloor", "floor"))

    def test_what_was_passed_stays(self):
        walls = [list(wall) for wall in told_ring(COURT).walls]
        paper = Ring(walls)
        kept = deepcopy((walls, paper.parts, COURT.cells))
        shows_ring(COURT, paper)
        self.assertEqual((walls, paper.parts, COURT.cells), kept)

    def test_great_floors_in_a_short_time(self):
        begin = time.monotonic()
        for cells in GREAT.values():
            floor = Floor(cells)
            walls = told_ring(floor).walls
            self.assertIs(shows_ring(floor, Ring(walls[30:] + walls[:30])), True)
            self.assertIs(shows_ring(floor, Ring(walls[30:] + walls[:29])), False)
            self.assertIs(shows_ring(floor, Ring(walls * 40)), False)
        self.assertLess(time.monotonic() - begin, 20)


if __name__ == "__main__":
    unittest.main()
