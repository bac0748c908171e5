"""Scripts that walk every floor."""

import inspect
import random
import time
import unittest

from fourstones import explorers
from fourstones.crowns import crowns_of
from fourstones.explorers import counter, crown_judge, explorer, explorer_mouse, explorer_text, pillar_counter
from fourstones.floors import Floor
from fourstones.judged import walks_whole
from fourstones.mice import Mouse
from fourstones.played import played
from fourstones.scripts import Script
from fourstones.tables import mouse_of
from fourstones.trips import Trip
from helpers import GREAT, bored_floor, crowns_by_pieces, floors_up_to, grown_floor, outside_of, seen_walls, told_error
from test_rings import row_by_pieces
from walkers import NO_NUMBERS, states_of

COURT, CORRIDOR = Floor.read("### #.# ###"), Floor.read("#####")
# Floors of at most 14 cells: without pillars, with one, with several, with notches and bays, hung by a corner only.
SMALL = [Floor.read(text) for text in (
    "#", "##", "# #", "#####", "##############", " ".join("#" * 14), "#. ##", "## #.", ".# ##", "## .#", "### ### ###",
    "#.# ###", "### #.#", "#### #..# ####", "### #.# #.# ###", "### #.# ### #.# ###", "##### #.#.# #####",
    "### #.# ##.", ".## #.# ###", "### #.# .##", "##. #.# ###", "#### #.#. ###. .#..", "##### #.#.# ##.##",
    "#..#. ##### .#..#", "#.#.#.# #######", "####### #.#.#.#", "##... .##.. ..##. ...##", "...## ..##. .##.. ##...",
    "###. #.## ##.# .###", "#### #.## ##.# ###.", "###.. #.### ###.#", "..### ###.# #.###",
    "#### #..# #.## ###.", "#### #..# ##.# .###", "##### #...# #.###", "##### #...# ###.#", "#.#.# ##### #.#.#",
    ".#. ### .#. ### .#.", "#### ...# #### #...", "###### #....# #....#",
)]
# Floors with a pillar of two towers, of one notched, and such.
LARGER = [Floor.read(text) for text in (
    "##### #...# #.#.# #.### #####", "###### #....# #.##.# #.##.# #..#.# ######", "###### #.#..# #.##.# #....# ######",
    "###### #..#.# #.##.# #....# ######", "####### #.#.#.# #.###.# #.....# #######", "####### #.#...# #.###.# #.....# #######",
    "####### #...#.# #.###.# #.....# #######", "##### #.#.# #...# #####", "##### #..## #.### ##..# #####",
    "####### #.....# #.###.# #.#.#.# #.###.# #...#.# #######", "######### #.......# #.#####.# #.#...### #.#.###.# "
    "#.#...#.# #.#####.# #.......# #########", "###### ##.#.# ####.# #....# ######",
)]


def run_to_end(mouse, floor, cell, side, most):
    """The trip of a mouse behind its end; it may be longer than one forward."""
    trip = Trip(mouse, floor, cell, side)
    while trip.word == "" and trip.steps < most:
        trip.forward(100000)
    return trip


def floors_of_fourteen():
    """Floors of 8 to 14 cells that grew, and such from which cells were taken away."""
    floors = [grown_floor(seed, 8 + seed % 7, 1 if seed % 2 else 0.3) for seed in range(24)]
    floors += [bored_floor(seed, 3 + seed % 3, 3 + seed % 2, 2 + seed % 5) for seed in range(40)]
    return [floor for floor in floors if len(floor.cells) <= 14]


class ExplorerTest(unittest.TestCase):
    def test_examples(self):
        told = played(explorer(), COURT, (2, 1), 3, 100000)
        self.assertEqual(
            [told.ending, told.cell, told.said, explorer().stones, explorer_text() == explorer().text],
            ["stop", (2, 1), (), 4, True],
        )
        pairs = ((COURT, 0), (CORRIDOR, 1))
        self.assertEqual(
            [walks_whole(explorer_mouse(), floor, floor.cells[0], side, 100000) for floor, side in pairs], [True, True],
        )
        self.assertEqual(
            [played(counter(5), floor, floor.cells[-1], 2, 100000).said for floor in (COURT, CORRIDOR)], [(3,), (0,)],
        )
        self.assertEqual(
            [played(pillar_counter(2), floor, floor.cells[0], 0, 100000).said for floor in (COURT, CORRIDOR)], [(1,), (0,)],
        )
        judge = crown_judge()
        self.assertEqual(
            [played(judge, COURT, (1, 2), 3, 100000).said, played(judge, COURT, (1, 0), 3, 100000).said], [(1,), (0,)],
        )
        self.assertEqual(told_error(counter, 13), ("BadNumber", "many"))

    def test_interface(self):
        asked = {"explorer": [], "explorer_text": [], "explorer_mouse": [], "crown_judge": [], "counter": ["many"],
                 "pillar_counter": ["many"]}
        for name, parameters in asked.items():
            told = getattr(explorers, name)
            self.assertEqual((told.__module__, list(inspect.signature(told).parameters)), ("fourstones.explorers", parameters))

    def test_kinds_and_stones(self):
        made = [explorer(), crown_judge(), counter(2), counter(many=12), pillar_counter(2), pillar_counter(many=12)]
        for script in made:
            self.assertEqual((type(script), script.stones), (Script, 4))
        self.assertEqual((type(explorer_text()), str(explorer())), (str, explorer_text()))
        mouse = explorer_mouse()
        self.assertEqual((type(mouse), mouse.stones), (Mouse, 4))
        self.assertLessEqual(len(mouse.lines), 6000)
        self.assertTrue(mouse == mouse_of(explorer()))

    def test_asked_again(self):
        begin = time.monotonic()
        for _ in range(5):
            self.assertTrue(explorer_mouse() == mouse_of(Script(explorer_text())))
        self.assertTrue(explorer() == explorer() and crown_judge() == crown_judge())
        for many in range(2, 13):
            self.assertTrue(counter(many) == counter(many) and pillar_counter(many) == pillar_counter(many))
        self.assertLess(time.monotonic() - begin, 5)

    def test_wrong_numbers(self):
        for call in (counter, pillar_counter):
            for many in (*NO_NUMBERS, 1, 0, -1, 13, 10 ** 5000, "5"):
                self.assertEqual(told_error(call, many), ("BadNumber", "many"))

    def test_small_floors_whole(self):
        script, mouse = explorer(), explorer_mouse()
        chance = random.Random(3)
        for floor in SMALL:
            for at, cell in enumerate(floor.cells):
                for side in range(4):
                    self.assertTrue(walks_whole(mouse, floor, cell, side, 100000), (str(floor), cell, side))
                side = (at + chance.randrange(4)) % 4
                told = played(script, floor, cell, side, 100000)
                self.assertEqual((told.ending, told.cell, told.said), ("stop", cell, ()))
                laid = {stone: None for stone in range(4)}
                for deed in told.deeds:
                    if deed[0] in ("lay", "take"):
                        laid[deed[1]] = deed[0] == "lay" or None
                self.assertEqual(laid, {0: None, 1: None, 2: None, 3: None})

    def test_by_another_walker(self):
        mouse = explorer_mouse()
        for floor in SMALL[::5] + LARGER[:2]:
            states = states_of(mouse, floor, floor.cells[-1], 1, 100000)
            last = states[-1][0]
            self.assertEqual((last[0], last[3], last[5], last[6]), (floor.cells[-1], (None,) * 4, (), "stop"))
            self.assertEqual({state[0] for state, _ in states}, set(floor.cells))

    def test_all_floors_of_up_to_six_cells(self):
        mouse = explorer_mouse()
        for floor in floors_up_to(6):
            self.assertTrue(walks_whole(mouse, floor, floor.cells[len(floor.cells) // 2], 3, 100000), str(floor))

    def test_drawn_floors(self):
        script, mouse = explorer(), explorer_mouse()
        for at, floor in enumerate(floors_of_fourteen()):
            for cell in floor.cells:
                self.assertTrue(walks_whole(mouse, floor, cell, at % 4, 100000), (str(floor), cell))
            told = played(script, floor, floor.cells[at % len(floor.cells)], at % 4, 100000)
            self.assertEqual((told.ending, told.said), ("stop", ()))

    def test_greater_floors(self):
        mouse = explorer_mouse()
        floors = LARGER + [bored_floor(seed, 9 + seed % 4, 9, 30) for seed in range(8)]
        for floor in floors:
            for at, cell in enumerate(floor.cells[::9]):
                trip = run_to_end(mouse, floor, cell, at % 4, 10 ** 6)
                self.assertEqual((trip.word, trip.cell, trip.stones, trip.said), ("stop", cell, (None,) * 4, ()))
            self.assertTrue(sees_all(mouse, floor, floor.cells[0], 2))

    def test_great_floors(self):
        mouse = explorer_mouse()
        for name, cells in GREAT.items():
            # Down the stairs each judging goes all the way: there a shorter piece of them is enough.
            floor = Floor(cells[:120]) if name == "stairs" else Floor(cells)
            self.assertTrue(sees_all(mouse, floor, floor.cells[7], 1), name)


def sees_all(mouse, floor, cell, side):
    """Whether a mouse comes back, all stones in its paws, and saw all cells; told by steps of any number."""
    trip = Trip(mouse, floor, cell, side)
    seen = {trip.cell: True}
    while trip.advance():
        seen[trip.cell] = True
    return (trip.word, trip.cell, trip.stones, trip.said, len(seen)) == ("stop", cell, (None,) * 4, (), len(floor.cells))


def rectangle_without(width, height, pillar):
    """The cells of a rectangle but those of a pillar."""
    return [(x, y) for x in range(width) for y in range(height) if (x, y) not in pillar]


class DeepTest(unittest.TestCase):
    """Pillars so deep that no flag could hold how deep they are."""

    def floors(self):
        hall = rectangle_without(3, 109, [(1, y) for y in range(1, 108)])
        yield Floor(hall)
        # Two towers with a bay between them: the one to the west is higher, the one to the east, none.
        for west, east in ((100, 96), (94, 100), (100, 100)):
            towers = [(1, y) for y in range(1, west)] + [(2, 1)] + [(3, y) for y in range(1, east)]
            yield Floor(rectangle_without(5, 101, towers))
        # A hall open to the outside: nothing in it is a pillar.
        yield Floor([cell for cell in hall if cell != (0, 3)])

    def test_walked_whole(self):
        mouse = explorer_mouse()
        for floor in self.floors():
            self.assertTrue(sees_all(mouse, floor, floor.cells[len(floor.cells) // 2], 0), str(floor))

    def test_crowns(self):
        mouse = mouse_of(crown_judge())
        many = []
        for floor in self.floors():
            crowns = crowns_by_pieces(floor)
            many.append(len(crowns))
            for x, y, side in seen_walls(floor):
                if side == 2:
                    trip = run_to_end(mouse, floor, (x, y), 3, 10 ** 6)
                    self.assertEqual((trip.word, trip.said), ("stop", (int((x, y, 2) in crowns),)), (x, y))
        self.assertEqual(many, [1, 1, 1, 1, 0])


class CounterTest(unittest.TestCase):
    def test_cells_and_pillars(self):
        floors = SMALL[::2] + floors_of_fourteen()[::6]
        for many in range(2, 13):
            cells, pillars = counter(many), pillar_counter(many)
            for at, floor in enumerate(floors[many % 3::3]):
                cell, side = floor.cells[(many + at) % len(floor.cells)], (many + at) % 4
                told = played(cells, floor, cell, side, 100000)
                self.assertEqual((told.ending, told.cell, told.said), ("stop", cell, (len(floor.cells) % many,)))
                self.assertEqual({seen for seen in cells_come_by(told.deeds, cell, side)}, set(floor.cells))
                told = played(pillars, floor, cell, side, 100000)
                self.assertEqual((told.ending, told.cell, told.said), ("stop", cell, ((len(outside_of(floor)) - 1) % many,)))
                self.assertEqual({seen for seen in cells_come_by(told.deeds, cell, side)}, set(floor.cells))

    def test_many_pillars(self):
        floor = Floor([(x, y) for x in range(15) for y in range(3) if not (x % 2 and y == 1)])
        for many in range(2, 13):
            for cell in ((0, 0), (7, 2), (14, 1)):
                self.assertEqual(played(pillar_counter(many), floor, cell, 1, 100000).said, (7 % many,))
        self.assertEqual(played(counter(12), floor, (8, 1), 1, 100000).said, (38 % 12,))

    def test_stones_come_back(self):
        for script in (counter(7), pillar_counter(3)):
            for floor in SMALL[10::6]:
                held = {}
                for deed in played(script, floor, floor.cells[0], 0, 100000).deeds:
                    held[deed[1:2]] = deed[0]
                self.assertEqual({held[(stone,)] for stone in range(4) if (stone,) in held} & {"lay"}, set())


def cells_come_by(deeds, cell, side):
    """The cells by which a mouse comes that does these deeds."""
    x, y = cell
    seen = [(x, y)]
    for deed in deeds:
        if deed[0] == "turn":
            side = (side + 1) % 4
        elif deed[0] == "go":
            x, y = (x, y + 1) if side == 0 else (x + 1, y) if side == 1 else (x, y - 1) if side == 2 else (x - 1, y)
            seen.append((x, y))
    return seen


class CrownJudgeTest(unittest.TestCase):
    def judged(self, floors):
        script, mouse = crown_judge(), mouse_of(crown_judge())
        told = {0: 0, 1: 0}
        for at, floor in enumerate(floors):
            crowns = crowns_by_pieces(floor)
            self.assertEqual(sorted(crowns), list(crowns_of(floor)))
            for x, y, side in seen_walls(floor):
                if side == 2:
                    trip = run_to_end(mouse, floor, (x, y), 3, 10 ** 6)
                    self.assertEqual((trip.word, trip.cell, trip.nose, trip.stones), ("stop", (x, y), 3, (None,) * 4))
                    self.assertEqual(trip.said, (int((x, y, 2) in crowns),), (str(floor), x, y))
                    told[trip.said[0]] += 1
                    if at % 5 == 0 and len(floor.cells) <= 14:
                        paper = played(script, floor, (x, y), 3, 100000)
                        self.assertEqual((paper.ending, paper.cell, paper.said), ("stop", (x, y), trip.said))
        return told

    def test_small_floors(self):
        told = self.judged(SMALL + LARGER)
        self.assertGreater(min(told.values()), 20)

    def test_drawn_floors(self):
        drawn = [bored_floor(seed, 5 + seed % 8, 5 + seed % 6, 8 + seed % 25) for seed in range(40)]
        told = self.judged(floors_of_fourteen() + drawn + floors_up_to(5))
        self.assertGreater(min(told.values()), 100)

    def test_great_floors(self):
        told = self.judged([Floor(GREAT[name]) for name in ("ring", "lattice", "comb", "comb to the west")])
        self.assertEqual(told[1], 1 + len(outside_of(Floor(GREAT["lattice"]))) - 1)


if __name__ == "__main__":
    unittest.main()
