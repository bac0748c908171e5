"""Floors, their texts, and floors made of floors."""

import random
import time
import unittest
from copy import deepcopy

from fourstones import floors
from fourstones.floors import Floor, joined_floor, lots_of, mirrored_floor, turned_floor
from helpers import GREAT, ODD, SHIFTS, bar, grown_floor, pieces_by, some_floors, told_error

FAR = 10 ** 6
COURT = [(5, 5), (6, 5), (7, 5), (5, 6), (7, 6), (5, 7), (6, 7), [7, 7]]
# What is no list of unlike cells, whether or not it may be empty.
NO_CELLS = (
    None, True, 7, "", "##", (0, 0), [0, 0], {(0, 0): 1}, {(0, 0)}, [None], [(0, 0), None], [(0,)], [(0, 0, 0)],
    [(0, True)], [(False, 0)], [("0", 0)], [(0, 1.0)], [(FAR + 1, 0)], [(0, -FAR - 1)], [(10 ** 5000, 0)],
    [(0, 0), (0, 0)], [(0, 0), [0, 0]], [(0, 0), (1, 0), (0, 0)], ((0, 0), "ab"), [[[0, 0]]], [{0: 0, 1: 1}],
    bar(401), [(0, 0)] * 401, [(2 * x, 0) for x in range(401)], iter([(0, 0)]), Floor([(0, 0)]),
)


class FloorTest(unittest.TestCase):
    def test_examples(self):
        court = Floor(COURT)
        self.assertEqual(
            [court.cells, court.width, court.height, str(court)],
            [((0, 0), (0, 1), (0, 2), (1, 0), (1, 2), (2, 0), (2, 1), (2, 2)), 3, 3, "### #.# ###"],
        )
        hook = Floor.read("#. ##")
        self.assertEqual(
            [hook.cells, hook.has([1, 1]), hook.beside((0, 0), 1), hook.beside((0, 0), 2),
             hook == Floor([(0, 1), (1, 0), (0, 0)])],
            [((0, 0), (0, 1), (1, 0)), False, (1, 0), None, True],
        )
        self.assertEqual(
            [str(turned_floor(hook, 1)), str(turned_floor(hook, 2)), str(mirrored_floor(hook)),
             str(joined_floor(hook, hook, (1, 1)))],
            ["## #.", "## .#", ".# ##", ".#. ### ##."],
        )
        self.assertEqual(lots_of([(3, 3), (0, 0), (0, 1), (1, 2)]), (((0, 0), (0, 1)), ((1, 2),), ((3, 3),)))
        self.assertEqual(told_error(Floor, [(0, 0), (1, 1)]), ("Misfit", "cells"))
        self.assertEqual(told_error(Floor.read, "## #.#"), ("BadText", 0, 1))
        self.assertEqual(told_error(Floor.read, ".# .#"), ("BadText", 0, 1))

    def test_methods_stand_in_the_class(self):
        for name in ("__init__", "__eq__", "__str__", "read", "has", "beside"):
            self.assertIn(name, vars(Floor))
        for name in ("Floor", "lots_of", "turned_floor", "mirrored_floor", "joined_floor"):
            self.assertEqual(getattr(floors, name).__module__, "fourstones.floors")

    def test_moved_and_ascending(self):
        cells = [(3, -7), [4, -7], (4, -6), [4, -5], (3, -5)]
        for made in (cells, tuple(cells), cells[::-1], [[x + 9, y - 99] for x, y in cells]):
            floor = Floor(made)
            self.assertEqual(floor.cells, ((0, 0), (0, 2), (1, 0), (1, 1), (1, 2)))
            self.assertEqual((floor.width, floor.height, str(floor)), (2, 3, "## .# ##"))
            self.assertIs(type(floor.cells), tuple)
            self.assertEqual({type(cell) for cell in floor.cells}, {tuple})
        one = Floor(cells=[[FAR, -FAR]])
        self.assertEqual((one.cells, one.width, one.height, str(one)), (((0, 0),), 1, 1, "#"))

    def test_cells_at_their_bounds(self):
        corner = [(-FAR, FAR), (-FAR + 1, FAR), (-FAR, FAR - 1)]
        self.assertEqual(str(Floor(corner)), "## #.")
        self.assertEqual(str(Floor([(FAR, -FAR), (FAR, 1 - FAR)])), "# #")
        for beyond in ((-FAR - 1, FAR), (-FAR, FAR + 1)):
            self.assertEqual(told_error(Floor, [*corner, beyond]), ("BadFloor", "cells"))

    def test_many_cells(self):
        self.assertEqual((Floor(bar(400)).width, Floor(bar(400)).height), (400, 1))
        self.assertEqual(told_error(Floor, bar(401)), ("BadFloor", "cells"))
        self.assertEqual(told_error(Floor, bar(400)[:9] + bar(400)[10:]), ("Misfit", "cells"))

    def test_no_floor(self):
        for cells in (*NO_CELLS, [], ()):
            self.assertEqual(told_error(Floor, cells), ("BadFloor", "cells"), cells)
        for cells in ([(0, 0), (2, 0)], ((0, 0), (1, 1)), [(0, 0), (0, 1), (1, 2)], [(-FAR, 0), (FAR, 0)]):
            self.assertEqual(told_error(Floor, cells), ("Misfit", "cells"))
        # Wrong cells come ahead of cells that do not hang together.
        self.assertEqual(told_error(Floor, [(0, 0), (2, 0), (2, 0)]), ("BadFloor", "cells"))
        self.assertEqual(told_error(Floor, [(2 * x, 0) for x in range(401)]), ("BadFloor", "cells"))

    def test_hangs_together(self):
        chance = random.Random(3)
        for _ in range(300):
            cells = {(chance.randrange(4), chance.randrange(4)) for _ in range(chance.randrange(1, 12))}
            whole = len(pieces_by(sorted(cells), cells, corners=False)) == 1
            self.assertEqual(told_error(Floor, sorted(cells)), None if whole else ("Misfit", "cells"))

    def test_equal(self):
        hook = Floor([(0, 0), (0, 1), (1, 0)])
        self.assertTrue(hook == Floor([[8, 5], (8, 6), (9, 5)]))
        self.assertFalse(hook != Floor([[8, 5], (8, 6), (9, 5)]))
        for other in (Floor([(0, 0), (0, 1), (1, 1)]), Floor([(0, 0), (0, 1)]), None, hook.cells, "#. ##", 3, Floor):
            self.assertIs(hook == other, False)
            self.assertIs(hook != other, True)

    def test_has(self):
        for floor in some_floors()[:20]:
            cells = set(floor.cells)
            for x in range(-1, floor.width + 1):
                for y in range(-1, floor.height + 1):
                    self.assertIs(floor.has((x, y)), (x, y) in cells)
                    self.assertIs(floor.has(cell=[x, y]), (x, y) in cells)
        self.assertIs(floor.has((FAR, -FAR)), False)
        for cell in (*ODD, (0,), (0, 0, 0), (0, True), (FAR + 1, 0), ("0", 0), ((0, 0), (0, 0))):
            self.assertEqual(told_error(floor.has, cell), ("BadCell", "cell"))

    def test_beside(self):
        for floor in some_floors()[:20]:
            cells = set(floor.cells)
            for x, y in floor.cells:
                for side, (right, up) in SHIFTS.items():
                    near = (x + right, y + up)
                    self.assertEqual(floor.beside((x, y), side), near if near in cells else None)
                    self.assertEqual(floor.beside(cell=[x, y], side=side), near if near in cells else None)

    def test_beside_errors(self):
        hook = Floor.read("#. ##")
        for cell in (*ODD, (0, True), (FAR + 1, 0), [0, 0, 0]):
            self.assertEqual(told_error(hook.beside, cell, 0), ("BadCell", "cell"))
            self.assertEqual(told_error(hook.beside, cell, 4), ("BadCell", "cell"))
        for side in (*ODD, -1, 4, 10 ** 5000, "0", [0]):
            self.assertEqual(told_error(hook.beside, (0, 0), side), ("BadNumber", "side"))
            self.assertEqual(told_error(hook.beside, (1, 1), side), ("BadNumber", "side"))
        for cell in ((1, 1), [1, 1], (-1, 0), (FAR, FAR)):
            self.assertEqual(told_error(hook.beside, cell, 3), ("Misfit", "cell"))


class ReadTest(unittest.TestCase):
    def test_right_texts(self):
        for floor in some_floors():
            text = str(floor)
            self.assertTrue(Floor.read(text) == floor)
            self.assertEqual(str(Floor.read(text=text)), text)
        for text in ("#", "# #", "##", "#. ##", "### #.# ###"):
            self.assertEqual(str(Floor.read(text)), text)

    def test_rows_from_north_to_south(self):
        self.assertEqual(Floor.read("##. .## ..#").cells, ((0, 2), (1, 1), (1, 2), (2, 0), (2, 1)))

    def test_no_string(self):
        for value in ODD:
            if not isinstance(value, str):
                self.assertEqual(told_error(Floor.read, value), ("BadText", 0, 0))
        self.assertEqual(told_error(Floor.read, ["#"]), ("BadText", 0, 0))
        self.assertEqual(told_error(Floor.read, b"#"), ("BadText", 0, 0))

    def test_items_that_cannot_stand(self):
        rows = (
            ("", 0), (" ", 0), (" #", 0), ("# ", 1), ("#  #", 1), ("# # ", 2), ("##  ##", 1),
            ("x", 0), ("# x", 1), ("#x", 0), ("## #X ##", 1), ("#\n", 0), ("#\n#", 0), ("#\t#", 0), ("## #, x", 1),
            ("# ##", 1), ("## #", 1), ("## ## #", 2), ("#. ## ###", 2), ("## ### x", 1), ("-1", 0), ("1", 0),
            ("\u0663", 0), ("# \uff03", 1), ("##\u00a0##", 0),
        )
        for text, item in rows:
            self.assertEqual(told_error(Floor.read, text), ("BadText", 0, item), repr(text))

    def test_what_only_the_whole_shows(self):
        rows = (
            (".", 0), ("...", 0), (". .", 1), ("#.", 0), (".#", 0), (".# .#", 1), ("#. #.", 1), (".. ##", 1),
            ("## ..", 1), ("#. .#", 1), ("#.#", 0), ("# . #", 2), ("... .#. ...", 2), ("### ... ###", 2),
            ("##. ... ..#", 2), ("#" + "." * 500, 0), ("." * 401 + " " + "#" * 400 + ".", 1),
        )
        for text, item in rows:
            self.assertEqual(told_error(Floor.read, text), ("BadText", 0, item), text)
        # An item that cannot stand comes ahead of what only the whole shows.
        self.assertEqual(told_error(Floor.read, "#. .# #"), ("BadText", 0, 2))

    def test_many_rows(self):
        column = " ".join(["#"] * 400)
        self.assertEqual(Floor.read(column).height, 400)
        self.assertEqual(told_error(Floor.read, column + " #"), ("BadText", 0, 400))
        self.assertEqual(told_error(Floor.read, column + " . . ."), ("BadText", 0, 400))
        dots = " ".join(["."] * 400)
        self.assertEqual(told_error(Floor.read, dots), ("BadText", 0, 399))
        self.assertEqual(told_error(Floor.read, dots + " ."), ("BadText", 0, 400))
        self.assertEqual(told_error(Floor.read, dots + " x #"), ("BadText", 0, 400))

    def test_many_cells(self):
        full = " ".join(["#" * 20] * 20)
        self.assertEqual(len(Floor.read(full).cells), 400)
        self.assertEqual(told_error(Floor.read, full + " #" + "." * 19), ("BadText", 0, 20))
        self.assertEqual(told_error(Floor.read, full + " " + "." * 20 + " #" + "." * 19), ("BadText", 0, 21))
        self.assertEqual(told_error(Floor.read, full + " " + "." * 20), ("BadText", 0, 20))
        self.assertEqual(Floor.read("#" * 400).width, 400)
        self.assertEqual(told_error(Floor.read, "#" * 401), ("BadText", 0, 0))
        self.assertEqual(told_error(Floor.read, "#" * 50000), ("BadText", 0, 0))

    def test_any_text_of_a_grid(self):
        chance = random.Random(8)
        for _ in range(400):
            width, height = chance.randrange(1, 5), chance.randrange(1, 5)
            rows = ["".join(chance.choice("##.") for _ in range(width)) for _ in range(height)]
            text = " ".join(rows)
            cells = {(x, -y) for y, row in enumerate(rows) for x, sign in enumerate(row) if sign == "#"}
            pieces = pieces_by(sorted(cells), cells, corners=False)
            rims = "#" in rows[0] and "#" in rows[-1] and any(row[0] == "#" for row in rows)
            if rims and any(row[-1] == "#" for row in rows) and len(pieces) == 1:
                self.assertEqual(str(Floor.read(text)), text)
                self.assertTrue(Floor.read(text) == Floor(sorted(cells)))
            else:
                self.assertEqual(told_error(Floor.read, text), ("BadText", 0, height - 1))


class LotsTest(unittest.TestCase):
    def test_lots(self):
        chance = random.Random(5)
        for _ in range(200):
            cells = {(chance.randrange(-3, 4), chance.randrange(-3, 4)) for _ in range(chance.randrange(20))}
            lots = tuple(tuple(sorted(piece)) for piece in pieces_by(sorted(cells), cells, corners=False))
            mixed = [chance.choice((list, tuple))(cell) for cell in cells]
            chance.shuffle(mixed)
            self.assertEqual(lots_of(mixed), lots)
            self.assertEqual(lots_of(cells=tuple(mixed)), lots)

    def test_at_the_bounds(self):
        self.assertEqual((lots_of([]), lots_of(())), ((), ()))
        self.assertEqual(lots_of([[FAR, FAR], (-FAR, -FAR)]), (((-FAR, -FAR),), ((FAR, FAR),)))
        self.assertEqual(lots_of(bar(400)[::-1]), (tuple(bar(400)),))
        self.assertEqual(len(lots_of([(2 * x, 0) for x in range(400)])), 400)

    def test_no_cells(self):
        for cells in NO_CELLS:
            self.assertEqual(told_error(lots_of, cells), ("BadFloor", "cells"), cells)


class MadeOfFloorsTest(unittest.TestCase):
    def test_turned(self):
        for floor in some_floors():
            cells = list(floor.cells)
            for quarters in range(4):
                self.assertTrue(turned_floor(floor, quarters) == Floor(cells))
                self.assertTrue(turned_floor(quarters=quarters, floor=floor) == Floor(cells))
                cells = [(y, -x) for x, y in cells]

    def test_turned_from_north_towards_east(self):
        arrow = Floor.read(".#. ### .#. .#.")
        self.assertEqual(str(turned_floor(arrow, 1)), "..#. #### ..#.")
        self.assertEqual(str(turned_floor(arrow, 3)), ".#.. #### .#..")

    def test_turned_errors(self):
        floor = Floor.read("##")
        for value in ODD:
            self.assertEqual(told_error(turned_floor, value, 9), ("BadFloor", "floor"))
            self.assertEqual(told_error(turned_floor, floor, value), ("BadNumber", "quarters"))
        for quarters in (-1, 4, 10 ** 5000):
            self.assertEqual(told_error(turned_floor, floor, quarters), ("BadNumber", "quarters"))

    def test_mirrored(self):
        for floor in some_floors():
            self.assertTrue(mirrored_floor(floor=floor) == Floor([(-x, y) for x, y in floor.cells]))
            self.assertTrue(mirrored_floor(mirrored_floor(floor)) == floor)
        self.assertEqual(str(mirrored_floor(Floor.read("##. .## ..#"))), ".## ##. #..")
        for value in ODD:
            self.assertEqual(told_error(mirrored_floor, value), ("BadFloor", "floor"))

    def test_joined(self):
        one, other = Floor.read("#. ##"), Floor.read("## .#")
        for x in range(-4, 5):
            for y in range(-4, 5):
                cells = [*one.cells, *((a + x, b + y) for a, b in other.cells)]
                whole = len(set(cells)) == 6 and len(pieces_by(cells, cells, corners=False)) == 1
                if whole:
                    self.assertTrue(joined_floor(one, other, (x, y)) == Floor(cells))
                    self.assertTrue(joined_floor(shift=[x, y], other=other, one=one) == Floor(cells))
                else:
                    self.assertEqual(told_error(joined_floor, one, other, [x, y]), ("Misfit", "shift"))

    def test_joined_errors_in_their_order(self):
        floor, great = Floor.read("##"), Floor(bar(400))
        for value in ODD:
            self.assertEqual(told_error(joined_floor, value, value, value), ("BadFloor", "one"))
            self.assertEqual(told_error(joined_floor, floor, value, value), ("BadFloor", "other"))
            self.assertEqual(told_error(joined_floor, floor, floor, value), ("BadCell", "shift"))
        for shift in ((FAR + 1, 0), (0, True), [0], (0, 0, 0)):
            self.assertEqual(told_error(joined_floor, great, great, shift), ("BadCell", "shift"))
        for shift in ((0, 0), (1, 0), (399, 0), (0, 2), (401, 0), (FAR, -FAR), (-FAR, FAR)):
            self.assertEqual(told_error(joined_floor, great, great, shift), ("Misfit", "shift"))
        for shift in ((400, 0), (-400, 0), (0, 1), (0, -1), (399, 1)):
            self.assertEqual(told_error(joined_floor, great, great, shift), ("TooMany", "cells", 400))

    def test_joined_at_the_bound(self):
        one, other = Floor(bar(399)), Floor(bar(1))
        self.assertTrue(joined_floor(one, other, (399, 0)) == Floor(bar(400)))
        self.assertEqual(told_error(joined_floor, one, Floor(bar(2)), (399, 0)), ("TooMany", "cells", 400))
        self.assertEqual(len(joined_floor(Floor(bar(200)), Floor(bar(200)), (5, 1)).cells), 400)


class StaysTest(unittest.TestCase):
    def test_what_was_passed_stays(self):
        cells = [[5, 5], (6, 5), [7, 5]]
        kept = deepcopy(cells)
        floor = Floor(cells)
        lots_of(cells)
        self.assertEqual(cells, kept)
        cells[0][0] = 99
        cells.pop()
        self.assertEqual(floor.cells, ((0, 0), (1, 0), (2, 0)))
        other, cell, shift = Floor.read("#. ##"), [0, 0], [3, 0]
        held = (floor.cells, str(other), other.cells, other.width, other.height)
        for quarters in range(4):
            turned_floor(other, quarters)
        mirrored_floor(other)
        joined_floor(floor, other, shift)
        other.has(cell)
        other.beside(cell, 0)
        told_error(joined_floor, floor, other, [0, 0])
        self.assertEqual(held, (floor.cells, str(other), other.cells, other.width, other.height))
        self.assertEqual((cell, shift), ([0, 0], [3, 0]))

    def test_great_floors_in_a_short_time(self):
        begin = time.monotonic()
        made = [Floor(cells) for cells in GREAT.values()] + [grown_floor(seed, 400) for seed in range(3)]
        for floor in made:
            self.assertTrue(len(floor.cells) in (399, 400))
            self.assertTrue(Floor.read(str(floor)) == floor)
            self.assertEqual(len(lots_of(floor.cells)), 1)
            self.assertTrue(turned_floor(turned_floor(floor, 1), 3) == mirrored_floor(mirrored_floor(floor)))
            self.assertEqual(told_error(joined_floor, floor, floor, (0, 0)), ("Misfit", "shift"))
            self.assertIsNotNone(told_error(joined_floor, floor, floor, (0, floor.height)))
            for cell in floor.cells:
                self.assertTrue(floor.has(cell))
                floor.beside(cell, 1)
        self.assertLess(time.monotonic() - begin, 10)


if __name__ == "__main__":
    unittest.main()
