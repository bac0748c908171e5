"""Rims, their turns, and pillars."""

import inspect
import time
import unittest
from copy import deepcopy

from fourstones import rims
from fourstones.floors import Floor, mirrored_floor, turned_floor
from fourstones.rims import is_outer, length_of, pillars_of, rim_of, rims_of, turns_of
from fourstones.walls import on_from, turn_at, walls_of
from helpers import GREAT, ODD, floors_up_to, outside_of, rims_by_pieces, some_floors, told_error

COURT = Floor.read("### #.# ###")
HOOK = Floor.read("#. ##")
OF_WALLS = (rim_of, length_of, turns_of, is_outer)
OF_FLOORS = (rims_of, pillars_of)


class RimsTest(unittest.TestCase):
    def floors(self):
        return floors_up_to(5) + some_floors()

    def test_examples(self):
        self.assertEqual(rim_of(COURT, (1, 2, 2)), ((1, 2, 2), (0, 1, 1), (1, 0, 0), (2, 1, 3)))
        self.assertEqual(
            [length_of(COURT, (0, 0, 2)), turns_of(COURT, (0, 0, 2)), turns_of(COURT, (1, 0, 0)),
             is_outer(COURT, (2, 1, 1)), is_outer(COURT, (2, 1, 3))],
            [12, 4, -4, True, False],
        )
        self.assertEqual(
            [[rim[0] for rim in rims_of(COURT)], pillars_of(COURT), pillars_of(HOOK), rims_of(Floor([(7, 7)]))],
            [[(0, 0, 2), (0, 1, 1)], 1, 0, (((0, 0, 0), (0, 0, 1), (0, 0, 2), (0, 0, 3)),)],
        )
        self.assertEqual(told_error(rim_of, COURT, (1, 1, 0)), ("BadWall", "wall"))

    def test_interface(self):
        asked = {made.__name__: ["floor", "wall"] for made in OF_WALLS}
        asked.update({made.__name__: ["floor"] for made in OF_FLOORS})
        self.assertEqual(len(asked), 6)
        for name, parameters in asked.items():
            told = getattr(rims, name)
            self.assertEqual((told.__module__, list(inspect.signature(told).parameters)), ("fourstones.rims", parameters))

    def test_rim_from_each_wall(self):
        for floor in self.floors():
            for wall in walls_of(floor):
                rim = [wall]
                while on_from(floor, rim[-1]) != wall:
                    rim.append(on_from(floor, rim[-1]))
                told = rim_of(floor, list(wall))
                self.assertEqual((told, type(told), type(told[0])), (tuple(rim), tuple, tuple))
                self.assertEqual(rim_of(wall=wall, floor=floor), tuple(rim))
                self.assertEqual(length_of(floor, wall), len(rim))
                turns = sum(turn_at(floor, place) for place in rim)
                self.assertEqual(turns_of(floor, list(wall)), turns)
                self.assertIs(is_outer(floor, wall), turns == 4)

    def test_all_rims(self):
        for floor in self.floors():
            told = rims_of(floor=floor)
            self.assertEqual(sorted(wall for rim in told for wall in rim), list(walls_of(floor)))
            for rim in told:
                self.assertEqual(rim, rim_of(floor, min(rim)))
            self.assertEqual([turns_of(floor, rim[0]) for rim in told], [4] + [-4] * (len(told) - 1))
            self.assertEqual([is_outer(floor, rim[-1]) for rim in told], [True] + [False] * (len(told) - 1))
            self.assertEqual(list(told[1:]), sorted(told[1:]))
            self.assertEqual(pillars_of(floor), len(told) - 1)

    def test_a_rim_for_each_piece_of_what_is_no_floor(self):
        for floor in self.floors():
            outer, *others = rims_by_pieces(floor)
            told = rims_of(floor)
            self.assertEqual([sorted(rim) for rim in told], [outer, *sorted(others)])
            self.assertEqual(pillars_of(floor), len(outside_of(floor)) - 1)

    def test_what_touches_at_a_corner(self):
        one_pillar, bay = Floor.read("#### #.## ##.# ####"), Floor.read(".### #.## ####")
        self.assertEqual((pillars_of(one_pillar), length_of(one_pillar, (1, 1, 1))), (1, 8))
        self.assertEqual(turns_of(one_pillar, (1, 1, 1)), -4)
        self.assertEqual((pillars_of(bay), len(rims_of(bay)[0])), (0, len(walls_of(bay))))
        self.assertEqual(pillars_of(Floor.read("##### #.#.# #####")), 2)
        self.assertEqual(pillars_of(Floor.read("##### #.#.# ##.## #####")), 1)

    def test_one_cell(self):
        one = Floor([(3, 3)])
        for side in range(4):
            self.assertEqual(rim_of(one, (0, 0, side)), tuple((0, 0, (side + k) % 4) for k in range(4)))
            told = (length_of(one, (0, 0, side)), turns_of(one, (0, 0, side)), is_outer(one, (0, 0, side)))
            self.assertEqual(told, (4, 4, True))
        self.assertEqual(pillars_of(one), 0)

    def test_turned_and_mirrored_floors(self):
        for floor in self.floors():
            turned, mirror = turned_floor(floor, 1), mirrored_floor(floor)
            for wall in walls_of(floor)[::2]:
                x, y, side = wall
                around = (y, floor.width - 1 - x, (side + 1) % 4)
                rim = [(b, floor.width - 1 - a, (c + 1) % 4) for a, b, c in rim_of(floor, wall)]
                self.assertEqual(list(rim_of(turned, around)), rim)
                there = (floor.width - 1 - x, y, (4 - side) % 4)
                rim = [(floor.width - 1 - a, b, (4 - c) % 4) for a, b, c in rim_of(floor, wall)]
                self.assertEqual(list(rim_of(mirror, there)), rim[:1] + rim[:0:-1])
                for other, place in ((turned, around), (mirror, there)):
                    self.assertEqual(turns_of(other, place), turns_of(floor, wall))
            self.assertEqual({pillars_of(turned), pillars_of(mirror)}, {pillars_of(floor)})


class ErrorsTest(unittest.TestCase):
    def test_no_floor(self):
        for value in ODD:
            for asked in OF_WALLS:
                self.assertEqual(told_error(asked, value, (0, 0, 2)), ("BadFloor", "floor"))
                self.assertEqual(told_error(asked, value, value), ("BadFloor", "floor"))
            for asked in OF_FLOORS:
                self.assertEqual(told_error(asked, value), ("BadFloor", "floor"))

    def test_no_wall(self):
        wrong = (*ODD, (1, 1, 0), (0, 0, 0), (0, 0, 4), (0, 0, -1), (0, 0), (0, 0, 2, 2), (0, 0, "2"), (False, 0, 2))
        for value in wrong:
            for asked in OF_WALLS:
                self.assertEqual(told_error(asked, COURT, value), ("BadWall", "wall"))


class StaysTest(unittest.TestCase):
    def test_what_was_passed_stays(self):
        wall = [0, 0, 2]
        kept = deepcopy((COURT.cells, str(COURT), wall))
        for asked in OF_WALLS:
            asked(COURT, wall)
        for asked in OF_FLOORS:
            asked(COURT)
        self.assertEqual((COURT.cells, str(COURT), wall), kept)

    def test_great_floors_in_a_short_time(self):
        begin = time.monotonic()
        for cells in GREAT.values():
            floor = Floor(cells)
            for wall in walls_of(floor)[::10]:
                self.assertIs(is_outer(floor, wall), turns_of(floor, wall) == 4)
                self.assertEqual(length_of(floor, wall), len(rim_of(floor, wall)))
            self.assertEqual(pillars_of(floor), len(rims_of(floor)) - 1)
        self.assertEqual(pillars_of(Floor(GREAT["ring"])), 1)
        self.assertGreater(pillars_of(Floor(GREAT["lattice"])), 100)
        self.assertLess(time.monotonic() - begin, 10)


if __name__ == "__main__":
    unittest.main()
