"""What the facts tell of the parts of the program together, at drawn inputs."""

import importlib
import inspect
import pathlib
import unittest

import fourstones
from fourstones.backleads import reckoner_of, standings_of
from fourstones.check_judged import shows_trip
from fourstones.check_rings import shows_ring
from fourstones.crowns import crowns_of, is_crown
from fourstones.errors import StoneError, TooMany
from fourstones.explorers import counter, crown_judge, explorer, explorer_mouse, pillar_counter
from fourstones.judged import judged_trip, seen_in, stands_bound, walks_whole
from fourstones.leadings import boxes_in, mouse_for, script_of
from fourstones.leasts import judged_mice, least_of, shows_mice
from fourstones.mice import Mouse
from fourstones.papers import Denial, Paper
from fourstones.pictures import film_of
from fourstones.played import played
from fourstones.reckoners import Reckoner
from fourstones.reckonings import judged_reckoning, told_by
from fourstones.rims import pillars_of
from fourstones.rings import number_of, ring_of, row_of, told_ring
from fourstones.scripts import Script
from fourstones.tables import mouse_of
from fourstones.traps import Trap, floors_of, shows_trap, trap_of
from fourstones.trips import Trip, deeds_of
from fourstones.walls import walls_of
from helpers import some_floors, told_error
from reckoned import some_reckoner
from scripters import some_script
from test_backleads import careful_mouse
from test_explorers import SMALL, floors_of_fourteen
from walkers import some_mouse

FLOORS = SMALL + floors_of_fourteen()
# It says 1 at each cell of the row, from the one behind home on, and 2 at home at last.
ROUND = Reckoner(1, [("up", 0, 1), ("home", 0, 3, 2), ("say", 1, 0), ("say", 2, 4), ("stop",)])


def error_of(call, *args):
    """The value of the call, or what it raises as a tuple."""
    try:
        return call(*args)
    except TooMany as error:
        return (error.what, error.most)


class RingAndExplorerTest(unittest.TestCase):
    def test_the_row_is_walked(self):
        mouse = mouse_for(ROUND)
        for at, floor in enumerate(FLOORS):
            home = floor.cells[at % len(floor.cells)]
            trip = Trip(mouse, floor, home, at % 4)
            row = row_of(floor, home)
            told = []
            while trip.advance():
                if len(trip.said) > len(told):
                    told.append(trip.cell)
                    self.assertEqual(boxes_in(trip, 1, home), (number_of(floor, home, trip.cell),))
            self.assertEqual((tuple(told), trip.word), ((*row[1:], home), "stop"))
            self.assertEqual(trip.said, (1,) * (len(row) - 1) + (2,))

    def test_walks_and_counts(self):
        mouse, cells, pillars = explorer_mouse(), counter(11), pillar_counter(3)
        for at, floor in enumerate(FLOORS):
            home, side = floor.cells[-1 - at % len(floor.cells)], at % 4
            self.assertTrue(walks_whole(mouse, floor, home, side, 100000))
            self.assertEqual(seen_in(mouse, floor, home, side, 100000), floor.cells)
            self.assertEqual(played(cells, floor, home, side, 100000).said, (len(floor.cells) % 11,))
            self.assertEqual(played(pillars, floor, home, side, 100000).said, (pillars_of(floor) % 3,))
            paper = judged_trip(mouse, floor, home, side, 100000)
            self.assertTrue(shows_trip(mouse, floor, home, side, paper))
            self.assertFalse(shows_trap(mouse, 5, 100000, Trap(str(floor), home, side)))

    def test_crowns_are_judged(self):
        mouse = mouse_of(crown_judge())
        for floor in FLOORS + some_floors()[:12]:
            souths = [wall for wall in walls_of(floor) if wall[2] == 2]
            told = []
            for wall in souths:
                trip = Trip(mouse, floor, wall[:2], 3)
                trip.forward(100000)
                self.assertEqual(trip.said, (int(is_crown(floor, wall)),))
                told += [wall] * trip.said[0]
            self.assertEqual(tuple(told), crowns_of(floor))
            self.assertEqual(len(told), pillars_of(floor))

    def test_one_ring(self):
        for floor in FLOORS:
            self.assertEqual(sorted(ring_of(floor, walls_of(floor)[-1])), list(walls_of(floor)))
            self.assertTrue(shows_ring(floor, told_ring(floor)))
            self.assertEqual(sorted(row_of(floor, floor.cells[0])), list(floor.cells))


class ScriptsAndTablesTest(unittest.TestCase):
    def test_script_table_and_least_mouse(self):
        for seed in range(300):
            script, floor = Script(some_script(seed)), FLOORS[seed % len(FLOORS)]
            cell, side = floor.cells[seed % len(floor.cells)], seed % 4
            mouse = mouse_of(script)
            paper = judged_mice(mouse, least_of(mouse))
            self.assertTrue(paper and shows_mice(mouse, least_of(mouse), paper))
            told = error_of(played, script, floor, cell, side, 2000)
            if isinstance(told, tuple):
                continue
            self.assertEqual(deeds_of(mouse, floor, cell, side, 2000), told.deeds)
            self.assertEqual(judged_trip(mouse, floor, cell, side, 2000).ending, told.ending)

    def test_the_explorer_is_its_table(self):
        script, mouse = explorer(), explorer_mouse()
        for at, floor in enumerate(FLOORS[::7]):
            cell, side = floor.cells[at % len(floor.cells)], at % 4
            self.assertEqual(played(script, floor, cell, side, 100000).deeds, deeds_of(mouse, floor, cell, side, 100000))

    def test_texts(self):
        for mouse in (explorer_mouse(), mouse_for(ROUND), mouse_of(crown_judge())):
            self.assertTrue(Mouse.read(str(mouse)) == mouse and least_of(mouse) == mouse)
        self.assertTrue(Script(str(script_of(ROUND))) == script_of(ROUND))


class LedBackAndAgainTest(unittest.TestCase):
    def test_judged_trips_and_judged_reckonings(self):
        words = {}
        for seed in range(400):
            mouse = (some_mouse, careful_mouse)[seed % 2](seed, seed % 4, 1 + seed % 12)
            floor = FLOORS[seed % len(FLOORS)]
            cell, side = floor.cells[seed % len(floor.cells)], seed % 4
            told = error_of(judged_trip, mouse, floor, cell, side, 3000)
            if isinstance(told, tuple) or standings_of(mouse, side) > 5999:
                continue
            reckoner = reckoner_of(mouse, side)
            paper = judged_reckoning(reckoner, floor, cell, 100000)
            self.assertEqual(type(paper), type(told))
            words[told.word] = 1 + words.get(told.word, 0)
            if told:
                trip = Trip(mouse, floor, cell, side)
                trip.forward(3000)
                self.assertEqual((told.ending, paper.ending), (trip.word, trip.word))
                self.assertEqual(told_by(reckoner, floor, cell, 100000), (trip.word, trip.said))
                self.assertLessEqual(paper.steps, 10 * told.steps + 10)
        self.assertGreater(min(words.values()), 40)

    def test_led_again(self):
        many = 0
        for seed in range(150):
            mouse = (some_mouse, careful_mouse)[seed % 2](seed, seed % 3, 1 + seed % 7)
            floor = FLOORS[seed % len(FLOORS)]
            cell, side = floor.cells[seed % len(floor.cells)], seed % 4
            told = error_of(judged_trip, mouse, floor, cell, side, 100)
            if isinstance(told, tuple) or not told or standings_of(mouse, side) > 59:
                continue
            paper = played(script_of(reckoner_of(mouse, side)), floor, cell, 3 - side, 100000)
            trip = Trip(mouse, floor, cell, side)
            trip.forward(100)
            self.assertEqual((paper.ending, paper.said), (trip.word, trip.said))
            many += 1
        self.assertGreater(many, 60)

    def test_reckoners_led_to_mice_that_are_led_back(self):
        floor = FLOORS[20]
        for seed in range(12):
            reckoner = some_reckoner(seed, 1, 1 + seed % 2)
            mouse = mouse_for(reckoner)
            told = error_of(reckoner_of, mouse, 1)
            if isinstance(told, tuple):
                self.assertEqual(told, ("lines", 6000))
                continue
            self.assertEqual(error_of(told_by, told, floor, floor.cells[0], 20000)[:2],
                             error_of(told_by, reckoner, floor, floor.cells[0], 20000)[:2])

    def test_bounds_of_stands(self):
        for seed in range(200):
            floor = floors_of(1 + seed % 3)[seed % (1, 2, 6)[seed % 3]]
            mouse, reckoner = some_mouse(seed, seed % 2, 1 + seed % 5), some_reckoner(seed, 1 + seed % 3, 1 + seed % 6)
            bound = stands_bound(mouse, floor)
            paper = judged_trip(mouse, floor, floor.cells[0], seed % 4, bound + 1)
            self.assertLessEqual(sum(paper.parts[1:]) if paper else sum(paper.parts), bound + 1)
            bound = len(reckoner.lines) * len(floor.cells) ** reckoner.boxes
            paper = judged_reckoning(reckoner, floor, floor.cells[0], bound)
            self.assertLessEqual(paper.steps if paper else sum(paper.parts), bound)


class TrapsAndFilmsTest(unittest.TestCase):
    def test_traps_are_floors_that_are_not_walked_whole(self):
        for seed in range(60):
            mouse = careful_mouse(seed, seed % 3, 1 + seed % 8)
            paper = trap_of(mouse, 3, 60)
            self.assertTrue(shows_trap(mouse, 3, 60, paper))
            if not paper:
                floor = next(floor for floor in floors_of(paper.floor.count("#")) if str(floor) == paper.floor)
                told = error_of(walks_whole, mouse, floor, paper.cell, paper.side, 60)
                self.assertIn(told, (False, ("steps", 60)))

    def test_films_of_reckoners_mice(self):
        mouse = mouse_for(ROUND)
        film = film_of(mouse, FLOORS[3], FLOORS[3].cells[1], 1, 200)
        self.assertEqual({len(picture) for picture in film}, {len(str(FLOORS[3]))})


class WholeProgramTest(unittest.TestCase):
    def modules(self):
        folder = pathlib.Path(fourstones.__file__).parent
        for path in sorted(folder.glob("*.py")):
            if path.stem != "__init__":
                yield importlib.import_module(f"fourstones.{path.stem}")

    def test_papers_and_errors(self):
        papers, errors = {}, {}
        for module in self.modules():
            for name, told in vars(module).items():
                if inspect.isclass(told) and told.__module__ == module.__name__:
                    if issubclass(told, Paper) and told not in (Paper, Denial):
                        papers[name] = told.__bases__
                    if issubclass(told, Exception) and told is not StoneError:
                        errors[name] = told.__bases__
        denials = {"Rounds", "Unlike", "Trap"}
        self.assertEqual(set(papers), denials | {"Ring", "Ends", "Play", "Alike", "Free"})
        for name, bases in papers.items():
            self.assertEqual(bases, (Denial,) if name in denials else (Paper,))
        self.assertEqual(len(errors), 11)
        for bases in errors.values():
            self.assertEqual(bases, (StoneError,))
        self.assertEqual(StoneError.__bases__, (ValueError,))

    def test_nothing_is_kept_between_calls(self):
        # Modules hold no state: what stands in them before all is asked stands in them afterwards.
        told = [(module.__name__, sorted(vars(module))) for module in self.modules()]
        values = [repr({name: value for name, value in vars(module).items() if isinstance(value, (dict, list, tuple))})
                  for module in self.modules()]
        explorer_mouse()
        told_error(trap_of, explorer_mouse(), 2, 500)
        mouse_for(ROUND)
        self.assertEqual([(module.__name__, sorted(vars(module))) for module in self.modules()], told)
        self.assertEqual([repr({name: value for name, value in vars(module).items() if isinstance(value, (dict, list, tuple))
                                }) for module in self.modules()], values)


if __name__ == "__main__":
    unittest.main()
