"""Walls, and where on and back lead."""

import inspect
import time
import unittest
from copy import deepcopy

from fourstones import walls
from fourstones.floors import Floor, mirrored_floor, turned_floor
from fourstones.walls import back_from, going_on, on_from, turn_at, walled, walls_of
from helpers import GREAT, ODD, floors_up_to, seen_walls, some_floors, told_error, told_error_of, walked_on

HOOK = Floor.read("#. ##")
COURT = Floor.read("### #.# ###")
# What is no wall of the court: sides beyond, cells beside it and inside, other kinds.
NO_WALLS = (
    *ODD, (0, 0, 0), [0, 0, 1], (0, 0, 4), (0, 0, -1), (0, 0, -2), (1, 1, 0), (-1, 0, 1), (3, 0, 3), (0, 3, 2),
    (0, 0, True), (False, 0, 2), (0, False, 2), (0, 2, False), (0, 0), (0, 0, 2, 2), [0, 0, 2, 0], ((0, 0), 2),
    ((0, 0, 2),), ("0", 0, 2), (0, 0, "2"), (0, 0, None), (0, None, 2), (0, 0, 2.0), (0.0, 0, 2), (0, 0, [2]),
    (10 ** 5000, 0, 2), (0, -10 ** 5000, 2), (0, 0, 10 ** 5000), (10 ** 6 + 1, 0, 2), {0: 0, 1: 0, 2: 2}, {0, 1, 2},
    "002", b"\x00\x00\x02", range(3), ([], [], []), ({}, 0, 2),
)
ASKED = (on_from, back_from, turn_at)


class WallsTest(unittest.TestCase):
    def floors(self):
        return floors_up_to(5) + some_floors()

    def test_examples(self):
        self.assertEqual(
            walls_of(HOOK),
            ((0, 0, 2), (0, 0, 3), (0, 1, 0), (0, 1, 1), (0, 1, 3), (1, 0, 0), (1, 0, 1), (1, 0, 2)),
        )
        self.assertEqual(
            [on_from(HOOK, (0, 0, 2)), on_from(HOOK, [0, 0, 3]), on_from(HOOK, (0, 1, 1)), back_from(HOOK, (1, 0, 0))],
            [(0, 0, 3), (0, 1, 3), (1, 0, 0), (0, 1, 1)],
        )
        self.assertEqual(
            [turn_at(HOOK, wall) for wall in ((0, 0, 2), (0, 0, 3), (0, 1, 1), (1, 0, 2))], [1, 0, -1, 0]
        )
        self.assertEqual(
            [list(going_on(HOOK, (0, 1, 0), 4)), list(going_on(HOOK, (0, 1, 0), 0)), walled(HOOK, [1, 0, 3]),
             walled(HOOK, [1, 0, 2]), walled(HOOK, None)],
            [[(0, 1, 0), (0, 1, 1), (1, 0, 0), (1, 0, 1)], [], False, True, False],
        )
        self.assertEqual(told_error(on_from, HOOK, (0, 0, 0)), ("BadWall", "wall"))

    def test_interface(self):
        asked = {
            "walls_of": ["floor"], "walled": ["floor", "wall"], "on_from": ["floor", "wall"],
            "back_from": ["floor", "wall"], "turn_at": ["floor", "wall"], "going_on": ["floor", "wall", "many"],
        }
        for name, parameters in asked.items():
            told = getattr(walls, name)
            self.assertEqual((told.__module__, list(inspect.signature(told).parameters)), ("fourstones.walls", parameters))

    def test_all_walls(self):
        for floor in self.floors():
            told = walls_of(floor=floor)
            self.assertIs(type(told), tuple)
            self.assertEqual({type(wall) for wall in told}, {tuple})
            self.assertEqual(list(told), seen_walls(floor))

    def test_walled(self):
        for floor in some_floors():
            right = set(walls_of(floor))
            for x in range(-1, floor.width + 1):
                for y in range(-1, floor.height + 1):
                    for side in range(-1, 5):
                        self.assertIs(walled(floor, (x, y, side)), (x, y, side) in right)
                        self.assertIs(walled(wall=[x, y, side], floor=floor), (x, y, side) in right)
        for value in NO_WALLS:
            self.assertIs(walled(COURT, value), False, value)

    def test_on_and_turn(self):
        turns = set()
        for floor in self.floors():
            for wall in seen_walls(floor):
                told, turn = walked_on(floor, wall)
                self.assertEqual(on_from(floor, wall), told)
                self.assertEqual(on_from(wall=list(wall), floor=floor), told)
                self.assertEqual((turn_at(floor, wall), turn_at(floor, list(wall))), (turn, turn))
                turns.add(turn)
        self.assertEqual(turns, {-1, 0, 1})

    def test_back_is_on_turned_round(self):
        for floor in self.floors():
            all_walls = walls_of(floor)
            self.assertEqual(sorted(on_from(floor, wall) for wall in all_walls), list(all_walls))
            for wall in all_walls:
                self.assertEqual(back_from(floor, on_from(floor, wall)), wall)
                self.assertEqual(on_from(floor, back_from(floor=floor, wall=list(wall))), wall)

    def test_turned_floors(self):
        for floor in self.floors():
            turned = turned_floor(floor, 1)
            over = {(x, y, side): (y, floor.width - 1 - x, (side + 1) % 4) for x, y, side in walls_of(floor)}
            self.assertEqual(walls_of(turned), tuple(sorted(over.values())))
            for wall, other in over.items():
                self.assertEqual(on_from(turned, other), over[on_from(floor, wall)])
                self.assertEqual(turn_at(turned, other), turn_at(floor, wall))

    def test_mirrored_floors(self):
        for floor in self.floors():
            mirror = mirrored_floor(floor)
            over = {(x, y, side): (floor.width - 1 - x, y, (4 - side) % 4) for x, y, side in walls_of(floor)}
            self.assertEqual(walls_of(mirror), tuple(sorted(over.values())))
            for wall, other in over.items():
                self.assertEqual(back_from(mirror, other), over[on_from(floor, wall)])
                self.assertEqual(on_from(mirror, other), over[back_from(floor, wall)])
                self.assertEqual(turn_at(mirror, over[on_from(floor, wall)]), turn_at(floor, wall))

    def test_north_walls_are_as_many_as_south_ones(self):
        for floor in some_floors():
            sides = [side for _, _, side in walls_of(floor)]
            self.assertEqual((sides.count(0), sides.count(1)), (sides.count(2), sides.count(3)))


class GoingOnTest(unittest.TestCase):
    def test_walls_in_order(self):
        for floor in some_floors():
            for wall in walls_of(floor)[::3]:
                told, place = [], wall
                for _ in range(50):
                    told.append(place)
                    place = on_from(floor, place)
                for many in (0, 1, 2, 7, 50):
                    self.assertEqual(list(going_on(floor, wall, many)), told[:many])
                    self.assertEqual(list(going_on(many=many, wall=list(wall), floor=floor)), told[:many])

    def test_bounds(self):
        self.assertEqual(list(going_on(HOOK, [0, 1, 0], 0)), [])
        self.assertEqual(list(going_on(HOOK, [0, 1, 0], 1)), [(0, 1, 0)])
        most = list(going_on(HOOK, (0, 1, 0), 5000))
        self.assertEqual((len(most), most[::8]), (5000, [(0, 1, 0)] * 625))
        for many in (-1, 5001, 10 ** 5000, *ODD):
            self.assertEqual(told_error_of(going_on, HOOK, (0, 1, 0), many), ("BadNumber", "many"))

    def test_one_by_one(self):
        told = going_on(COURT, [0, 0, 2], 5000)
        self.assertTrue(inspect.isgenerator(told))
        self.assertEqual([next(told), next(told)], [(0, 0, 2), (0, 0, 3)])
        self.assertEqual(next(told), (0, 1, 3))
        other = going_on(COURT, (0, 0, 2), 2)
        self.assertEqual([next(other), next(other), next(other, None)], [(0, 0, 2), (0, 0, 3), None])
        self.assertEqual(next(told), (0, 2, 3))

    def test_errors_in_their_order(self):
        for value in ODD:
            self.assertEqual(told_error_of(going_on, value, value, value), ("BadFloor", "floor"))
        for value in NO_WALLS:
            for many in (0, 1, -1, True, 5001):
                self.assertEqual(told_error_of(going_on, COURT, value, many), ("BadWall", "wall"), value)


class ErrorsTest(unittest.TestCase):
    def test_no_floor(self):
        for value in ODD:
            self.assertEqual(told_error(walls_of, value), ("BadFloor", "floor"))
            for asked in (*ASKED, walled):
                self.assertEqual(told_error(asked, value, (0, 0, 2)), ("BadFloor", "floor"))
                self.assertEqual(told_error(asked, value, value), ("BadFloor", "floor"))

    def test_no_wall(self):
        for value in NO_WALLS:
            for asked in ASKED:
                self.assertEqual(told_error(asked, COURT, value), ("BadWall", "wall"), value)


class StaysTest(unittest.TestCase):
    def test_what_was_passed_stays(self):
        wall = [0, 0, 2]
        kept = deepcopy((HOOK.cells, str(HOOK), wall))
        for asked in (*ASKED, walled):
            asked(HOOK, wall)
        going = going_on(HOOK, wall, 3)
        self.assertEqual(next(going), (0, 0, 2))
        walls_of(HOOK)
        self.assertEqual((HOOK.cells, str(HOOK), wall), kept)
        wall[2] = 9
        self.assertEqual(list(going), [(0, 0, 3), (0, 1, 3)])

    def test_great_floors_in_a_short_time(self):
        begin = time.monotonic()
        for cells in GREAT.values():
            floor = Floor(cells)
            for wall in walls_of(floor):
                self.assertEqual(back_from(floor, on_from(floor, wall)), wall)
                self.assertIn(turn_at(floor, wall), (-1, 0, 1))
            self.assertEqual(len(list(going_on(floor, walls_of(floor)[0], 5000))), 5000)
        self.assertLess(time.monotonic() - begin, 10)


if __name__ == "__main__":
    unittest.main()
