"""Runs, crowns and threads."""

import inspect
import time
import unittest
from copy import deepcopy

from fourstones import crowns
from fourstones.crowns import crowns_of, hung_on, is_crown, run_of, thread_at
from fourstones.floors import Floor
from fourstones.rims import is_outer, pillars_of, rim_of
from fourstones.walls import walled, walls_of
from helpers import GREAT, ODD, crowns_by_pieces, floors_up_to, rims_by_pieces, some_floors, told_error

COURT = Floor.read("### #.# ###")
HOOK = Floor.read("#. ##")
STACK = Floor.read("### #.# ### #.# ###")
NO_CELLS = (*ODD, (0, 0, 0), (0,), (0, True), ("0", 0), (10 ** 6 + 1, 0), (0, -10 ** 6 - 1), (10 ** 5000, 0))
NO_WALLS = (*ODD, (1, 1, 0), (0, 0, 0), (0, 0, 4), (0, 0, -1), (0, 0), (0, 0, 2, 2), (0, 0, "2"), (False, 0, 2))


class CrownsTest(unittest.TestCase):
    def floors(self):
        return floors_up_to(5) + some_floors()

    def test_examples(self):
        self.assertEqual(
            [run_of(COURT, [2, 1]), run_of(COURT, (1, 0)), crowns_of(COURT), crowns_of(HOOK)],
            [((2, 2), (2, 1), (2, 0)), ((1, 0),), ((1, 2, 2),), ()],
        )
        self.assertEqual(
            [is_crown(COURT, (1, 2, 2)), is_crown(COURT, (1, 0, 2)), thread_at(COURT, (1, 2, 2)),
             thread_at(COURT, (1, 2, 0)), thread_at(COURT, (0, 2, 0))],
            [True, False, (1, 2, 0), (1, 2, 2), None],
        )
        self.assertEqual(
            [crowns_of(STACK), hung_on(STACK), hung_on(COURT)],
            [((1, 2, 2), (1, 4, 2)), (((1, 2, 2), (0, 3, 1)), ((1, 4, 2), (0, 0, 2))), (((1, 2, 2), (0, 0, 2)),)],
        )
        self.assertEqual(told_error(run_of, COURT, (1, 1)), ("Misfit", "cell"))

    def test_interface(self):
        asked = {
            "run_of": ["floor", "cell"], "is_crown": ["floor", "wall"], "crowns_of": ["floor"],
            "thread_at": ["floor", "wall"], "hung_on": ["floor"],
        }
        for name, parameters in asked.items():
            told = getattr(crowns, name)
            self.assertEqual((told.__module__, list(inspect.signature(told).parameters)), ("fourstones.crowns", parameters))

    def test_runs(self):
        for floor in self.floors():
            cells = set(floor.cells)
            for x, y in floor.cells:
                run = run_of(floor, [x, y])
                self.assertEqual((type(run), {type(cell) for cell in run}), (tuple, {tuple}))
                self.assertIn((x, y), run)
                self.assertEqual(run, tuple((x, run[0][1] - k) for k in range(len(run))))
                self.assertTrue(set(run) <= cells)
                self.assertNotIn((x, run[0][1] + 1), cells)
                self.assertNotIn((x, run[-1][1] - 1), cells)
                self.assertEqual({run_of(cell=cell, floor=floor) for cell in run}, {run})
                north = [cell for cell in run if walled(floor, (*cell, 0))]
                south = [cell for cell in run if walled(floor, (*cell, 2))]
                self.assertEqual((north, south), ([run[0]], [run[-1]]))

    def test_crowns(self):
        several = 0
        for floor in self.floors():
            told = crowns_by_pieces(floor)
            self.assertEqual(crowns_of(floor=floor), tuple(sorted(told)))
            self.assertEqual(len(told), pillars_of(floor))
            for wall in walls_of(floor):
                self.assertIs(is_crown(floor, wall), wall in told)
                self.assertIs(is_crown(wall=list(wall), floor=floor), wall in told)
            for x, y, side in told:
                rim = rim_of(floor, (x, y, side))
                highest = [wall for wall in rim if wall[2] == 2 and wall[1] >= y]
                self.assertEqual(min(highest), (x, y, side))
                self.assertEqual({wall[1] for wall in highest}, {y})
                several += len(highest) > 1
        self.assertGreater(several, 5)

    def test_crown_of_several_highest_squares(self):
        self.assertEqual(crowns_of(Floor.read("##### #...# #####")), ((1, 2, 2),))
        horns = Floor.read("##### #.#.# #...# #####")
        self.assertEqual(crowns_of(horns), ((1, 3, 2),))
        self.assertEqual([is_crown(horns, wall) for wall in ((1, 3, 2), (3, 3, 2), (2, 2, 2), (2, 0, 2))],
                         [True, False, False, False])
        self.assertEqual(crowns_of(Floor.read("##### #.### ##..# #####")), ((1, 3, 2),))
        self.assertEqual(crowns_of(Floor.read("##### ###.# #..## #####")), ((3, 3, 2),))

    def test_order_is_that_of_the_crowns(self):
        # The pillar with the lesser rim has the greater crown.
        floor = Floor.read("###### ##.#.# ####.# #....# ######")
        self.assertEqual(crowns_of(floor), ((2, 4, 2), (4, 4, 2)))
        self.assertEqual(hung_on(floor), (((2, 4, 2), (0, 0, 2)), ((4, 4, 2), (0, 0, 2))))

    def test_threads(self):
        for floor in self.floors():
            over = {}
            for crown, top in crowns_by_pieces(floor).items():
                over[crown] = top
                over[top] = crown
            self.assertEqual(len(over), 2 * pillars_of(floor))
            for wall in walls_of(floor):
                told = thread_at(floor, list(wall))
                self.assertEqual(told, over.get(wall))
                self.assertEqual(thread_at(wall=wall, floor=floor), over.get(wall))
                if told is not None:
                    self.assertIs(type(told), tuple)
                    self.assertEqual(thread_at(floor, told), wall)

    def test_hung(self):
        for floor in self.floors():
            rims = rims_by_pieces(floor)
            tops = crowns_by_pieces(floor)
            told = tuple((crown, min(min(rim) for rim in rims if tops[crown] in rim)) for crown in sorted(tops))
            self.assertEqual(hung_on(floor=floor), told)
            self.assertIs(type(hung_on(floor)), tuple)
            self.assertEqual({type(pair) for pair in hung_on(floor)} | {tuple}, {tuple})

    def test_hanging_comes_to_the_outer_rim(self):
        for floor in self.floors():
            over = {min(rim_of(floor, crown)): least for crown, least in hung_on(floor)}
            self.assertEqual(len(over), pillars_of(floor))
            for least in over:
                times = 0
                while not is_outer(floor, least):
                    least = over[least]
                    times += 1
                    self.assertLessEqual(times, len(over))

    def test_pillars_one_above_another(self):
        tower = Floor.read("### #.# ### #.# ### #.# ### #.# ###")
        told = (((1, 2, 2), (0, 3, 1)), ((1, 4, 2), (0, 5, 1)), ((1, 6, 2), (0, 7, 1)), ((1, 8, 2), (0, 0, 2)))
        self.assertEqual(hung_on(tower), told)
        beside = Floor.read("##### #.#.# #####")
        self.assertEqual(hung_on(beside), (((1, 2, 2), (0, 0, 2)), ((3, 2, 2), (0, 0, 2))))


class ErrorsTest(unittest.TestCase):
    def test_no_floor(self):
        for value in ODD:
            for asked in (crowns_of, hung_on):
                self.assertEqual(told_error(asked, value), ("BadFloor", "floor"))
            for asked in (is_crown, thread_at, run_of):
                self.assertEqual(told_error(asked, value, value), ("BadFloor", "floor"))
                self.assertEqual(told_error(asked, value, (0, 0, 2)[:2 + (asked is not run_of)]), ("BadFloor", "floor"))

    def test_no_wall(self):
        for value in NO_WALLS:
            for asked in (is_crown, thread_at):
                self.assertEqual(told_error(asked, COURT, value), ("BadWall", "wall"), value)

    def test_no_cell(self):
        for value in NO_CELLS:
            self.assertEqual(told_error(run_of, COURT, value), ("BadCell", "cell"), value)
        for cell in ((1, 1), [1, 1], (3, 0), (0, -1), (-1, 2), (10 ** 6, -10 ** 6)):
            self.assertEqual(told_error(run_of, COURT, cell), ("Misfit", "cell"))


class StaysTest(unittest.TestCase):
    def test_what_was_passed_stays(self):
        wall, cell = [1, 2, 2], [2, 1]
        kept = deepcopy((COURT.cells, str(COURT), wall, cell))
        is_crown(COURT, wall)
        thread_at(COURT, wall)
        run_of(COURT, cell)
        crowns_of(COURT)
        hung_on(COURT)
        self.assertEqual((COURT.cells, str(COURT), wall, cell), kept)

    def test_great_floors_in_a_short_time(self):
        begin = time.monotonic()
        for cells in GREAT.values():
            floor = Floor(cells)
            self.assertEqual(len(crowns_of(floor)), pillars_of(floor))
            self.assertEqual(len(hung_on(floor)), pillars_of(floor))
            for wall in walls_of(floor)[::4]:
                self.assertIs(is_crown(floor, wall), wall in crowns_of(floor))
                thread_at(floor, wall)
            for cell in floor.cells:
                self.assertIn(cell, run_of(floor, cell))
        self.assertLess(time.monotonic() - begin, 20)


if __name__ == "__main__":
    unittest.main()
