"""The ring and the row."""

import inspect
import time
import unittest
from copy import deepcopy

from fourstones import rings
from fourstones.crowns import run_of, thread_at
from fourstones.floors import Floor
from fourstones.papers import Denial, Paper
from fourstones.rings import Ring, cell_at, last_from, next_from, number_of, ring_of, row_of, told_ring
from fourstones.walls import on_from, walls_of
from helpers import GREAT, ODD, floors_up_to, ring_by_pieces, some_floors, told_error

COURT = Floor.read("### #.# ###")
HOOK = Floor.read("#. ##")
NO_CELLS = (*ODD, (0, 0, 0), (0,), (0, True), ("0", 0), (10 ** 6 + 1, 0), (0, -10 ** 6 - 1), (10 ** 5000, 0))
NO_WALLS = (*ODD, (1, 1, 0), (0, 0, 0), (0, 0, 4), (0, 0, -1), (0, 0), (0, 0, 2, 2), (0, 0, "2"), (False, 0, 2))
NOT_IN_COURT = ((1, 1), [1, 1], (3, 0), (0, -1), (-1, 2), (10 ** 6, -10 ** 6))
OF_WALLS = (next_from, last_from, ring_of)


def row_by_pieces(floor, home):
    """The row by the ring of the helpers, turned about so that home comes first."""
    cells = set(floor.cells)
    row = []
    for x, y, side in ring_by_pieces(floor, walls_of(floor)[0]):
        while side == 0 and (x, y) in cells:
            row.append((x, y))
            y -= 1
    at = row.index(home)
    return row[at:] + row[:at]


class RingTest(unittest.TestCase):
    def floors(self):
        return floors_up_to(5) + some_floors()

    def test_examples(self):
        self.assertEqual(
            [next_from(COURT, (0, 2, 0)), next_from(COURT, (1, 2, 0)), next_from(COURT, (1, 2, 2)),
             last_from(COURT, (0, 1, 1))],
            [(1, 2, 0), (0, 1, 1), (2, 2, 0), (1, 2, 0)],
        )
        self.assertEqual(
            ring_of(COURT, (1, 2, 0)),
            ((1, 2, 0), (0, 1, 1), (1, 0, 0), (2, 1, 3), (1, 2, 2), (2, 2, 0), (2, 2, 1), (2, 1, 1), (2, 0, 1),
             (2, 0, 2), (1, 0, 2), (0, 0, 2), (0, 0, 3), (0, 1, 3), (0, 2, 3), (0, 2, 0)),
        )
        self.assertEqual(
            [row_of(COURT, (2, 2)), row_of(HOOK, (0, 0))],
            [((2, 2), (2, 1), (2, 0), (0, 2), (0, 1), (0, 0), (1, 2), (1, 0)), ((0, 0), (1, 0), (0, 1))],
        )
        self.assertEqual(
            [number_of(COURT, (2, 2), (1, 0)), cell_at(COURT, (0, 0), 1), cell_at(COURT, [0, 0], number=0)],
            [7, (1, 2), (0, 0)],
        )
        self.assertEqual(
            [told_ring(HOOK).walls[:3], told_ring(COURT).walls[0], bool(told_ring(HOOK))],
            [((0, 0, 2), (0, 0, 3), (0, 1, 3)), (0, 0, 2), True],
        )
        self.assertEqual(told_error(cell_at, HOOK, (0, 0), 3), ("BadNumber", "number"))
        self.assertEqual(told_error(number_of, HOOK, (1, 1), (0, "0")), ("BadCell", "cell"))

    def test_interface(self):
        asked = {
            "next_from": ["floor", "wall"], "last_from": ["floor", "wall"], "ring_of": ["floor", "wall"],
            "row_of": ["floor", "home"], "number_of": ["floor", "home", "cell"],
            "cell_at": ["floor", "home", "number"], "Ring": ["walls"], "told_ring": ["floor"],
        }
        for name, parameters in asked.items():
            told = getattr(rings, name)
            self.assertEqual((told.__module__, list(inspect.signature(told).parameters)), ("fourstones.rings", parameters))

    def test_next_and_last(self):
        for floor in self.floors():
            for wall in walls_of(floor):
                other = thread_at(floor, wall)
                told = on_from(floor, wall if other is None else other)
                self.assertEqual(next_from(floor, list(wall)), told)
                self.assertEqual(next_from(wall=wall, floor=floor), told)
                self.assertEqual(last_from(floor, told), wall)
                self.assertEqual(next_from(floor, last_from(floor=floor, wall=list(wall))), wall)
                self.assertEqual({type(told), type(last_from(floor, list(wall)))}, {tuple})

    def test_ring(self):
        for floor in self.floors():
            first = walls_of(floor)[0]
            ring = ring_by_pieces(floor, first)
            self.assertEqual(sorted(ring), list(walls_of(floor)))
            for at, wall in enumerate(ring):
                told = ring_of(floor, list(wall))
                self.assertEqual(told, tuple(ring[at:] + ring[:at]))
            self.assertEqual(ring_of(wall=first, floor=floor), tuple(ring))

    def test_ring_goes_by_next(self):
        for floor in some_floors():
            ring = ring_of(floor, walls_of(floor)[-1])
            self.assertEqual([next_from(floor, wall) for wall in ring], [*ring[1:], ring[0]])
            self.assertEqual([last_from(floor, wall) for wall in ring], [ring[-1], *ring[:-1]])

    def test_paper(self):
        for floor in self.floors():
            paper = told_ring(floor=floor)
            self.assertIsInstance(paper, Ring)
            self.assertEqual(paper.walls, ring_of(floor, walls_of(floor)[0]))
            self.assertEqual((paper.word, paper.parts), ("ring", (paper.walls,)))
            self.assertTrue(paper == Ring(list(paper.walls)))

    def test_class_of_the_paper(self):
        self.assertEqual(Ring.__bases__, (Paper,))
        ring = Ring([[0, 0, 2], (0, 0, 3)])
        self.assertEqual(ring.walls, ((0, 0, 2), (0, 0, 3)))
        self.assertIs(type(ring.walls[0]), tuple)
        self.assertTrue(ring == Ring(walls=((0, 0, 2), [0, 0, 3])))
        for other in (Ring([(0, 0, 2)]), Paper("ring", ring.walls), Denial("ring", ring.walls), ring.walls, None):
            self.assertFalse(ring == other)
        for value in (None, 7, "walls", True, {"a": [1]}, ()):
            self.assertEqual((Ring(value).walls, Ring(value).parts, bool(Ring(value))), (value, (value,), True))


class RowTest(unittest.TestCase):
    def test_row_from_each_home(self):
        for floor in floors_up_to(5) + some_floors():
            row = row_by_pieces(floor, floor.cells[0])
            self.assertEqual(sorted(row), list(floor.cells))
            for at, home in enumerate(row[:30]):
                told = row_of(floor, list(home))
                self.assertEqual((told, type(told)), (tuple(row[at:] + row[:at]), tuple))
                self.assertEqual({type(cell) for cell in told}, {tuple})
            self.assertEqual(row_of(home=floor.cells[0], floor=floor), tuple(row))

    def test_runs_stay_whole(self):
        for floor in some_floors():
            row = row_of(floor, run_of(floor, floor.cells[0])[0])
            at = 0
            while at < len(row):
                run = run_of(floor, row[at])
                self.assertEqual(row[at:at + len(run)], run)
                at += len(run)

    def test_numbers_and_cells(self):
        for floor in floors_up_to(4) + some_floors()[::3]:
            for home in floor.cells[::3]:
                row = row_of(floor, home)
                for number, cell in enumerate(row[:20]):
                    self.assertEqual(cell_at(floor, list(home), number), cell)
                    self.assertEqual(number_of(floor, home, list(cell)), number)
                self.assertEqual(cell_at(number=len(row) - 1, home=home, floor=floor), row[-1])
                self.assertEqual(number_of(cell=row[-1], home=home, floor=floor), len(row) - 1)
                self.assertEqual(number_of(floor, home, home), 0)
                self.assertEqual(type(cell_at(floor, list(home), 0)), tuple)


class ErrorsTest(unittest.TestCase):
    def test_no_floor(self):
        for value in ODD:
            self.assertEqual(told_error(told_ring, value), ("BadFloor", "floor"))
            for asked in (*OF_WALLS, row_of):
                self.assertEqual(told_error(asked, value, value), ("BadFloor", "floor"))
            for asked in (number_of, cell_at):
                self.assertEqual(told_error(asked, value, value, value), ("BadFloor", "floor"))
                self.assertEqual(told_error(asked, value, (0, 0), 0), ("BadFloor", "floor"))

    def test_no_wall(self):
        for value in NO_WALLS:
            for asked in OF_WALLS:
                self.assertEqual(told_error(asked, COURT, value), ("BadWall", "wall"), value)

    def test_no_cell(self):
        for value in NO_CELLS:
            self.assertEqual(told_error(row_of, COURT, value), ("BadCell", "home"))
            self.assertEqual(told_error(number_of, COURT, value, value), ("BadCell", "home"))
            self.assertEqual(told_error(number_of, COURT, (0, 0), value), ("BadCell", "cell"))
            self.assertEqual(told_error(number_of, COURT, (1, 1), value), ("BadCell", "cell"))
            self.assertEqual(told_error(number_of, COURT, value, (1, 1)), ("BadCell", "home"))
            self.assertEqual(told_error(cell_at, COURT, value, value), ("BadCell", "home"))
            self.assertEqual(told_error(cell_at, COURT, value, 99), ("BadCell", "home"))

    def test_none_of_the_floor(self):
        for cell in NOT_IN_COURT:
            self.assertEqual(told_error(row_of, COURT, cell), ("Misfit", "home"))
            self.assertEqual(told_error(cell_at, COURT, cell, 0), ("Misfit", "home"))
            self.assertEqual(told_error(number_of, COURT, cell, (0, 0)), ("Misfit", "home"))
            self.assertEqual(told_error(number_of, COURT, (0, 0), cell), ("Misfit", "cell"))
            self.assertEqual(told_error(number_of, COURT, cell, cell), ("Misfit", "home"))

    def test_numbers(self):
        for number in (*ODD, -1, 8, 9, 10 ** 5000, -10 ** 5000, [0], "0"):
            self.assertEqual(told_error(cell_at, COURT, (0, 0), number), ("BadNumber", "number"))
            # All parameters come ahead of what does not fit together.
            self.assertEqual(told_error(cell_at, COURT, (1, 1), number), ("BadNumber", "number"))
        self.assertEqual([cell_at(COURT, (2, 2), number) for number in (0, 7)], [(2, 2), (1, 0)])


class StaysTest(unittest.TestCase):
    def test_what_was_passed_stays(self):
        wall, home, cell, told = [1, 2, 0], [2, 2], [1, 0], [[0, 0, 2], (0, 0, 3)]
        kept = deepcopy((COURT.cells, str(COURT), wall, home, cell, told))
        for asked in OF_WALLS:
            asked(COURT, wall)
        row_of(COURT, home)
        number_of(COURT, home, cell)
        cell_at(COURT, home, 3)
        told_ring(COURT)
        ring = Ring(told)
        self.assertEqual((COURT.cells, str(COURT), wall, home, cell, told), kept)
        told[0][0] = 9
        self.assertEqual(ring.walls, ((0, 0, 2), (0, 0, 3)))

    def test_great_floors_in_a_short_time(self):
        begin = time.monotonic()
        for cells in GREAT.values():
            floor = Floor(cells)
            ring = told_ring(floor).walls
            self.assertEqual(sorted(ring), list(walls_of(floor)))
            for at in range(0, len(ring) - 1, 5):
                self.assertEqual(next_from(floor, ring[at]), ring[at + 1])
                self.assertEqual(last_from(floor, ring[at + 1]), ring[at])
            for home in floor.cells[::50]:
                row = row_of(floor, home)
                self.assertEqual(sorted(row), list(floor.cells))
                self.assertEqual(number_of(floor, home, cell_at(floor, home, 123)), 123)
        self.assertLess(time.monotonic() - begin, 20)


if __name__ == "__main__":
    unittest.main()
