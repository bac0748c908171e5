"""Mice led back to reckoners."""

import inspect
import random
import time
import unittest
from copy import deepcopy

from fourstones import backleads
from fourstones.backleads import reckoner_of, standings_of
from fourstones.errors import TooMany
from fourstones.explorers import explorer_mouse
from fourstones.floors import Floor
from fourstones.leadings import mouse_for, script_of
from fourstones.mice import Mouse
from fourstones.played import played
from fourstones.reckoners import Reckoner
from fourstones.reckonings import Reckoning, told_by
from fourstones.scripts import Script
from fourstones.tables import mouse_of
from fourstones.trips import Trip
from helpers import SHIFTS, some_floors, told_error
from scripters import some_script
from test_explorers import COURT, SMALL
from test_judged import AROUND
from test_reckonings import CELLS
from test_rings import row_by_pieces
from test_trips import NO_MICE, NO_SIDES
from walkers import KINDS, right_of, seen_at, some_mouse, states_of

SPIN, OFF = Mouse(0, [("turn", 0)]), Mouse(0, [("go", 0)])
FAR = Mouse(0, [("wall", 0, 3, 1), ("go", 2), ("say", 1, 0), ("stop",)])
DROP = Mouse(1, [
    ("lay", 0, 2, 1), ("go", 2), ("here", 0, 2, 3, 4), ("stop",), ("say", 7, 5), ("turn", 6), ("turn", 7), ("go", 8),
    ("here", 0, 0, 9, 3), ("take", 0, 3),
])
ROW = Floor.read("###")
CALLS = (standings_of, reckoner_of)
ENDLESS = [word for word in KINDS if word != "stop"]


def careful_mouse(seed, stones, many):
    """A mouse that goes mostly from line to line, and looks ahead of most lines that lay or take a stone."""
    chance = random.Random(seed)
    lines = list(some_mouse(seed, stones, many, ENDLESS if seed % 3 else None).lines)
    for at, line in enumerate(lines):
        head = len(line) - KINDS[line[0]].count("n")
        lines[at] = (*line[:head], *((at + 1) % many if chance.random() < 0.7 else to for to in line[head:]))
    for at in range(1, many):
        if lines[at][0] in ("lay", "take") and lines[at - 1][0] not in ("lay", "take"):
            ways = (at, chance.randrange(many))
            lines[at - 1] = ("held", lines[at][1], *(ways if lines[at][0] == "lay" else ways[::-1]))
    return Mouse(stones, lines)


def standings_by_search(mouse, side):
    """All standings, by directions: line, nose, and for each stone "paws", "middle" or a direction."""
    first = (0, SHIFTS[side], ("paws",) * mouse.stones)
    found, waiting = {first}, [first]
    while waiting:
        line, nose, stones = waiting.pop()
        kind, *told = mouse.lines[line]
        lies = stones[told[0]] if kind in ("lay", "take", "here", "held") else None
        asked = (seen_at(nose, told[1]) or "middle") if kind in ("lay", "here") else None
        changed = {}
        if kind in ("go", "say"):
            to = told[-1:]
        elif kind == "turn":
            to, nose = told[-1:], right_of(nose)
        elif kind == "lay":
            to, changed = told[-1:] if lies == "paws" else [], {told[0]: asked}
        elif kind == "take":
            to, changed = told[-1:] if lies != "paws" else [], {told[0]: "paws"}
        elif kind == "wall":
            to = told[-2:]
        elif kind == "here":
            to = told[-2:] if lies == asked else told[-1:]
        elif kind == "held":
            to = [told[-2 if lies == "paws" else -1]]
        elif kind == "north":
            to = [told[-2 if nose == (0, 1) else -1]]
        else:
            to = []
        stones = tuple(changed.get(stone, lies) for stone, lies in enumerate(stones))
        for line in to:
            if (line, nose, stones) not in found:
                found.add((line, nose, stones))
                waiting.append((line, nose, stones))
    return found


def boxes_by_trip(mouse, floor, cell, side, most):
    """Behind each step of a trip: how many numbers were said, its word, and what the boxes have to hold."""
    row = row_by_pieces(floor, tuple(cell))
    lain = [0] * mouse.stones
    told = []
    for state, _ in states_of(mouse, floor, cell, side, most):
        for stone, lies in enumerate(state[3]):
            if lies is not None:
                lain[stone] = row.index(lies[:2])
        told.append((state[5], state[6], (row.index(state[0]), *lain)))
    return told


class StandingsTest(unittest.TestCase):
    def test_examples(self):
        layer = Mouse(1, [("lay", 0, 1, 1), ("turn", 0)])
        self.assertEqual(
            [standings_of(SPIN, 2), standings_of(OFF, 0), standings_of(FAR, 1), standings_of(layer, 0)], [4, 1, 4, 3],
        )
        self.assertEqual(
            [told_by(reckoner_of(FAR, 1), ROW, home, 100) for home in ROW.cells],
            [("stop", (1, 1)), ("stop", (1,)), ("stop", ())],
        )
        mice = (OFF, Mouse(1, [("take", 0, 0)]), Mouse(2, [("lay", 1, 4, 1), ("go", 2), ("lay", 1, 0, 0)]))
        self.assertEqual(
            [told_by(reckoner_of(mouse, 1), ROW, (0, 0), 100) for mouse in mice], [("bump", ()), ("fault", ()), ("fault", ())],
        )
        run = Reckoning(reckoner_of(DROP, 1), ROW, (1, 0))
        self.assertEqual(
            [run.forward(1000) > 0, run.word, run.said, run.boxes, reckoner_of(DROP, 1).boxes],
            [True, "stop", (7,), (0, 0), 2],
        )
        self.assertEqual(told_error(reckoner_of, Mouse(12, [("stop",)]), 0), ("Misfit", "mouse"))
        self.assertEqual(told_error(standings_of, SPIN, 4), ("BadNumber", "side"))

    def test_interface(self):
        for name in ("standings_of", "reckoner_of"):
            told = getattr(backleads, name)
            self.assertEqual((told.__module__, list(inspect.signature(told).parameters)),
                             ("fourstones.backleads", ["mouse", "side"]))

    def test_by_search(self):
        many = {}
        for seed in range(500):
            mouse, side = careful_mouse(seed, seed % 4, 1 + seed % 25), seed % 4
            told = len(standings_by_search(mouse, side))
            self.assertEqual(standings_of(mouse, side), told)
            self.assertEqual(standings_of(side=side, mouse=mouse), told)
            many[told] = True
        self.assertGreater(len(many), 40)

    def test_each_kind_of_line(self):
        two, end = [("stop",)] * 2, [("stop",)]
        for lines, told in (
            ([("stop",)], 1), ([("go", 1), *end], 2), ([("say", 5, 1), *end], 2), ([("turn", 1), *end], 2),
            ([("wall", 2, 1, 2), *two], 3), ([("wall", 2, 1, 1), *two], 2), ([("held", 0, 1, 2), *two], 2),
            ([("north", 1, 2), *two], 2), ([("take", 0, 1), *end], 1), ([("lay", 0, 4, 1), *end], 2),
            ([("lay", 0, 4, 0)], 2), ([("here", 0, 0, 1, 2), *two], 2), ([("lay", 0, 1, 1), ("here", 0, 1, 2, 3), *two], 4),
            ([("lay", 0, 1, 1), ("here", 0, 2, 2, 3), *two], 3), ([("lay", 0, 4, 1), ("here", 0, 4, 2, 3), *two], 4),
            ([("lay", 0, 4, 1), ("here", 0, 0, 2, 3), *two], 3), ([("lay", 0, 1, 1), ("here", 0, 4, 2, 3), *two], 3),
            ([("lay", 0, 1, 1), ("turn", 2), ("here", 0, 0, 3, 4), *two], 5),
            ([("lay", 0, 1, 1), ("held", 0, 2, 3), *two], 3), ([("lay", 0, 1, 1), ("take", 0, 0)], 2),
            ([("lay", 0, 1, 1), ("take", 0, 2), ("held", 0, 3, 4), *two], 4),
        ):
            for side in range(4):
                self.assertEqual(standings_of(Mouse(1, lines), side), told, lines)
        self.assertEqual([standings_of(Mouse(0, [("north", 1, 2), ("stop",), ("turn", 0)]), side) for side in range(4)],
                         [2, 8, 6, 4])

    def test_as_many_as_may_be(self):
        begin = time.monotonic()
        for many, told in ((20000, None), (20001, ("TooMany", "standings", 20000))):
            mouse = exact_mouse(many)
            self.assertEqual(len(standings_by_search(mouse, 2)), many)
            self.assertEqual(told_error(standings_of, mouse, 2), told)
            if told is None:
                self.assertEqual(standings_of(mouse, 2), many)
        # Twelve stones, each of which comes to lie at any spot: far more than are counted.
        lines = [("held", 0, 1, 1)]
        for stone in range(12):
            for spot in range(4):
                at = len(lines)
                lines += [("wall", spot, at + 1, at + 2), ("lay", stone, spot, 10 * stone + 10)]
            lines += [("lay", stone, 4, 10 * stone + 10), ("turn", 10 * stone + 11)]
        self.assertEqual(told_error(standings_of, Mouse(12, [*lines, ("go", 0)]), 0), ("TooMany", "standings", 20000))
        self.assertLess(time.monotonic() - begin, 10)


def exact_mouse(many):
    """A mouse with just so many standings: it lays its stone at one of five spots, and goes on for so many lines."""
    looks = [("wall", 0, 1, 2), ("lay", 0, 0, 9), ("wall", 1, 3, 4), ("lay", 0, 1, 9), ("wall", 2, 5, 6), ("lay", 0, 2, 9),
             ("wall", 3, 7, 8), ("lay", 0, 3, 9), ("lay", 0, 4, 9)]
    # Nine standings ahead of the stone, then five for each line; what is left, only if the stone lies in the middle.
    whole, rest = divmod(many - 9, 5)
    at = 9 + whole - 1
    lines = [*looks, *(("say", 0, line + 1) for line in range(9, at)), ("here", 0, 4, at + 1, at)]
    lines += [("say", 0, line + 1) for line in range(at + 1, at + rest)] + [("stop",)] * (1 if rest else 0)
    if rest == 0:
        lines[at] = ("stop",)
    return Mouse(1, lines)


class ReckonerTest(unittest.TestCase):
    def check(self, mouse, floor, cell, side, most=80):
        """Holds the reckoner against the trip; the word of its end."""
        told = boxes_by_trip(mouse, floor, cell, side, most)
        reckoner = reckoner_of(mouse, side)
        self.assertEqual(reckoner.boxes, mouse.stones + 1)
        run = Reckoning(reckoner, floor, cell)
        for steps, (said, word, boxes) in enumerate(told):
            if said[len(run.said):] or word:
                while run.word == "" and (len(run.said) < len(said) or word):
                    run.advance()
                self.assertEqual((run.said, run.boxes), (said, boxes))
                self.assertLessEqual(run.steps, 10 * steps + 10)
        self.assertEqual(run.word, told[-1][1])
        if told[-1][1] == "":
            run.forward(most // 10)
            self.assertEqual(run.word, "")
        return told[-1][1]

    def test_from_each_home_for_each_side(self):
        mice = (FAR, DROP, AROUND, OFF, *(some_mouse(seed, 1 + seed % 3, 14) for seed in range(6)))
        for floor in [ROW, COURT, Floor.read("#. ##"), Floor.read("#")]:
            for home in floor.cells:
                for side in range(4):
                    for mouse in mice:
                        self.check(mouse, floor, home, side)

    def test_drawn_mice(self):
        floors = some_floors()[:24]
        words = {}
        for seed in range(700):
            make = (some_mouse, careful_mouse)[seed % 2]
            mouse, floor = make(seed, seed % 5, 1 + seed % 23), floors[seed % len(floors)]
            if standings_of(mouse, seed % 4) > 5999:
                continue
            word = self.check(mouse, floor, floor.cells[seed % len(floor.cells)], seed % 4, 120)
            words[word] = 1 + words.get(word, 0)
        self.assertEqual(set(words), {"", "stop", "bump", "fault"})
        self.assertGreater(min(words.values()), 40)

    def test_boxes_of_stones(self):
        # The stone that was taken up is still told where it was; the one that was never laid, at home.
        mouse = Mouse(3, [
            ("say", 0, 1), ("go", 2), ("lay", 1, 2, 3), ("say", 1, 4), ("go", 5), ("lay", 2, 4, 6), ("say", 2, 7),
            ("take", 2, 8), ("go", 9), ("say", 3, 10), ("lay", 2, 0, 11), ("say", 4, 12), ("take", 2, 13), ("stop",),
        ])
        floor = Floor.read("#####")
        run = Reckoning(reckoner_of(mouse, 1), floor, (0, 0))
        told = []
        while run.word == "":
            many = len(run.said)
            run.advance()
            if len(run.said) > many or run.word:
                told.append((run.said[-1], run.boxes))
        self.assertEqual(told, [(0, (0, 0, 0, 0)), (1, (1, 0, 1, 0)), (2, (2, 0, 1, 2)), (3, (3, 0, 1, 2)),
                                (4, (3, 0, 1, 3)), (4, (3, 0, 1, 3))])

    def test_faults(self):
        there = [("go", 1), ("lay", 0, 1, 2), ("go", 3)]
        for lines in ([("take", 0, 0)], [("lay", 0, 4, 0)], [*there, ("take", 0, 0)], [*there, ("lay", 0, 1, 0)],
                      [("lay", 0, 1, 1), ("take", 0, 2), ("take", 0, 0)]):
            mouse = Mouse(1, lines)
            self.assertEqual(told_by(reckoner_of(mouse, 1), ROW, (0, 0), 100), ("fault", ()))
            self.assertEqual(self.check(mouse, ROW, (0, 0), 1), "fault")
        # In the cell where it lies it can be taken, whatever the side.
        self.assertEqual(self.check(Mouse(1, [("lay", 0, 1, 1), ("turn", 2), ("take", 0, 3), ("stop",)]), ROW, (0, 0), 1), "stop")

    def test_bounds(self):
        begin = time.monotonic()
        for many, told in ((5999, None), (6000, ("TooMany", "lines", 6000)), (20001, ("TooMany", "lines", 6000))):
            self.assertEqual(told_error(reckoner_of, exact_mouse(many), 2), told)
        reckoner = reckoner_of(exact_mouse(5999), 2)
        self.assertLessEqual(len(reckoner.lines), 6000)
        self.check(exact_mouse(5999), COURT, (1, 2), 2, 1500)
        for stones in range(12):
            self.assertEqual(reckoner_of(Mouse(stones, [("stop",)]), 0).boxes, stones + 1)
        self.check(Mouse(11, [("lay", 10, 0, 1), ("go", 2), ("lay", 0, 0, 3), ("say", 3, 4), ("go", 0)]), ROW, (0, 0), 1)
        self.assertEqual(told_error(reckoner_of, Mouse(12, exact_mouse(6000).lines), 2), ("Misfit", "mouse"))
        self.assertEqual(standings_of(Mouse(12, [("stop",)]), 3), 1)
        self.assertLess(time.monotonic() - begin, 15)

    def test_asked_again(self):
        for seed in range(30):
            mouse = some_mouse(seed, seed % 3, 12)
            again = Mouse(mouse.stones, [list(line) for line in mouse.lines])
            told = reckoner_of(mouse, 1)
            self.assertTrue(told == reckoner_of(side=1, mouse=again) and mouse == again)
            self.assertEqual(type(told), Reckoner)


class AgainTest(unittest.TestCase):
    def test_led_back_and_led_again(self):
        for floor in (ROW, COURT, Floor.read("#. ##")):
            for home in floor.cells:
                for side in range(4):
                    for mouse in (FAR, DROP, AROUND):
                        trip = Trip(mouse, floor, home, side)
                        trip.forward(1000)
                        if trip.word == "" or standings_of(mouse, side) > 59:
                            continue
                        told = played(script_of(reckoner_of(mouse, side)), floor, home, 1, 100000)
                        self.assertEqual((told.ending, told.said), (trip.word, trip.said))

    def test_from_scripts(self):
        floors = SMALL[:20]
        many = 0
        for seed in range(400):
            floor = floors[seed % len(floors)]
            mouse, home, side = mouse_of(Script(some_script(seed))), floor.cells[-1], seed % 4
            trip = Trip(mouse, floor, home, side)
            trip.forward(500)
            if trip.word and standings_of(mouse, side) <= 59:
                reckoner = reckoner_of(mouse, side)
                self.assertEqual(told_by(reckoner, floor, home, 100000), (trip.word, trip.said))
                if seed % 9 == 0:
                    told = played(script_of(reckoner), floor, home, 3 - side, 100000)
                    self.assertEqual((told.ending, told.said), (trip.word, trip.said))
                    many += 1
        self.assertGreater(many, 15)

    def test_reckoners_led_and_led_back(self):
        mouse = mouse_for(Reckoner(1, [("say", 3, 1), ("stop",)]))
        reckoner = reckoner_of(mouse, 2)
        for home in COURT.cells:
            self.assertEqual(told_by(reckoner, COURT, home, 100000), ("stop", (3,)))
        told = told_error(reckoner_of, mouse_for(CELLS), 0)
        self.assertIn(told, (None, ("TooMany", "lines", 6000)))

    def test_explorer(self):
        mouse = explorer_mouse()
        for side in range(4):
            try:
                many = standings_of(mouse, side)
            except TooMany as error:
                self.assertEqual((error.what, error.most), ("standings", 20000))
                many = 20001
            if many > 5999:
                self.assertEqual(told_error(reckoner_of, mouse, side), ("TooMany", "lines", 6000))
            else:
                self.assertEqual(told_by(reckoner_of(mouse, side), COURT, (0, 1), 100000), ("stop", ()))


class ErrorTest(unittest.TestCase):
    def test_wrong_values(self):
        for call in CALLS:
            for value in NO_MICE:
                for side in (0, 4, None):
                    self.assertEqual(told_error(call, value, side), ("BadMouse", "mouse"))
            for side in NO_SIDES:
                for mouse in (SPIN, Mouse(12, [("stop",)]), exact_mouse(20001)):
                    self.assertEqual(told_error(call, mouse, side), ("BadNumber", "side"))

    def test_what_is_passed_stays(self):
        mouse = Mouse(2, [["lay", 1, 0, 1], ["go", 0]])
        kept = deepcopy(mouse)
        for call in CALLS:
            call(mouse, 1)
            told_error(call, mouse, 7)
            self.assertTrue(mouse == kept)


if __name__ == "__main__":
    unittest.main()
