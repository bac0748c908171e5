"""Which papers of judged trips are right."""

import inspect
import time
import unittest
from copy import deepcopy

from fourstones import check_judged
from fourstones.check_judged import shows_trip
from fourstones.floors import Floor
from fourstones.judged import Ends, Rounds, judged_trip
from fourstones.mice import Mouse
from fourstones.papers import Denial, Paper
from fourstones.rings import told_ring
from helpers import GREAT, ODD, namesake, told_error
from test_judged import AROUND, HALL, OFF, ROOM, SPIN, STOP, shortly_judged
from test_trips import NO_CELLS, NO_FLOORS, NO_MICE, NO_SIDES, OUTSIDE
from walkers import NO_NUMBERS, long_mouse, states_of

WORDS = ("stop", "bump", "fault")


class BelowEnds(Ends):
    """A class of its own, although it is below Ends."""


class BelowRounds(Rounds):
    """A class of its own, although it is below Rounds."""


class ShowsTripTest(unittest.TestCase):
    def test_examples(self):
        values = (Rounds(0, 4), Rounds(3, 8), Rounds(0, 2), Rounds(0, 0), Ends("stop", 1), None)
        self.assertEqual(
            [shows_trip(SPIN, ROOM, (0, 0), 0, value) for value in values], [True, True, False, False, False, False],
        )
        values = (Ends("bump", 2), Ends("bump", 1), Ends("fault", 2), Rounds(0, 1))
        self.assertEqual([shows_trip(OFF, ROOM, (0, 0), 1, value) for value in values], [True, False, False, False])

    def test_interface(self):
        self.assertEqual(shows_trip.__module__, "fourstones.check_judged")
        told = list(inspect.signature(check_judged.shows_trip).parameters)
        self.assertEqual(told, ["mouse", "floor", "cell", "side", "value"])
        self.assertIs(shows_trip(value=Rounds(0, 4), side=0, cell=[0, 0], floor=ROOM, mouse=SPIN), True)

    def test_what_is_judged_is_right(self):
        for begin, _ in shortly_judged(150):
            self.assertIs(shows_trip(*begin, judged_trip(*begin, 100000)), True)

    def test_ends(self):
        for begin, (told, _, _) in shortly_judged(150):
            steps = told[1] if told[0] else 7
            for word in (*WORDS, "", "STOP", "stop ", "ends", None, 0, True, ("stop",), ["bump"], b"stop", {}):
                for many in (steps - 1, steps, steps + 1, 0, -1, -steps, 2000, 100001, 10 ** 5000):
                    self.assertIs(shows_trip(*begin, Ends(word, many)), (word, many) == told)
        self.assertIs(shows_trip(SPIN, ROOM, (0, 0), 0, Ends("stop", 100000)), False)

    def test_ends_of_other_kinds(self):
        for value in NO_NUMBERS:
            self.assertIs(shows_trip(STOP, ROOM, (0, 0), 0, Ends("stop", value)), False)
            self.assertIs(shows_trip(STOP, ROOM, (0, 0), 0, Ends(value, 1)), False)
        self.assertIs(shows_trip(STOP, ROOM, (0, 0), 0, Ends("stop", 1)), True)

    def test_rounds(self):
        rounds = 0
        for begin, (told, _, _) in shortly_judged(120):
            stands = [state[:4] for state, _ in states_of(*begin, 40)]
            if told[0]:
                # The stand behind the step with which the trip ends is none.
                stands.pop()
            for first in range(0, 41, 3):
                for long in range(0, 43 - first):
                    same = first + long < len(stands) and stands[first] == stands[first + long]
                    if first + long < 41:
                        self.assertIs(shows_trip(*begin, Rounds(first, long)), same and long > 0)
                        rounds += same and long > 0
        self.assertGreater(rounds, 1000)

    def test_rounds_at_the_bounds(self):
        for begin, long, told in (
            (0, 100000, True), (99996, 4, True), (50000, 50000, True), (99999, 1, False), (100000, 0, False),
            (100000, 4, False), (99997, 4, False), (0, 100004, False), (4, 100000, False), (-4, 8, False), (8, -4, False),
            (-1, 4, False), (-1, 5, False), (4, 0, False), (0, -4, False), (10 ** 5000, 4, False), (4, 10 ** 5000, False),
            (10 ** 30, -10 ** 30 + 8, False), (99996, 2, False), (1, 99996, True), (1, 99999, False),
        ):
            self.assertIs(shows_trip(SPIN, ROOM, (0, 0), 0, Rounds(begin, long)), told, (begin, long))

    def test_rounds_of_other_kinds(self):
        still = Mouse(0, [("say", 1, 0)])
        self.assertIs(shows_trip(still, ROOM, (0, 0), 0, Rounds(1, 1)), True)
        self.assertIs(shows_trip(still, ROOM, (0, 0), 0, Rounds(0, 1)), True)
        for value in NO_NUMBERS:
            self.assertIs(shows_trip(still, ROOM, (0, 0), 0, Rounds(value, 1)), False)
            self.assertIs(shows_trip(still, ROOM, (0, 0), 0, Rounds(1, value)), False)

    def test_rounds_of_a_trip_that_ends(self):
        # Behind its end the stand would stay the same.
        for mouse, side in ((STOP, 0), (Mouse(1, [("take", 0, 0)]), 0), (OFF, 0), (OFF, 1)):
            for begin in range(4):
                for long in range(1, 4):
                    self.assertIs(shows_trip(mouse, ROOM, (0, 0), side, Rounds(begin, long)), False)

    def test_a_stand_that_comes_later_on(self):
        begin = (AROUND, HALL, (0, 0), 0)
        for value, told in (
            (Rounds(1, 32), True), (Rounds(0, 32), False), (Rounds(2, 32), True), (Rounds(1, 64), True),
            (Rounds(40, 96), True), (Rounds(1, 16), False), (Rounds(1, 31), False), (Rounds(1, 33), False),
        ):
            self.assertIs(shows_trip(*begin, value), told)

    def test_more_steps_than_a_paper_may_tell(self):
        for many, told in ((100000, True), (100001, False)):
            mouse, side = stopper(many)
            self.assertEqual(judged_steps(mouse, side), many)
            self.assertIs(shows_trip(mouse, BAR, (0, 0), side, Ends("stop", many)), told)
            self.assertIs(shows_trip(mouse, BAR, (0, 0), side, Ends("stop", many - 1)), False)

    def test_other_values(self):
        others = (
            *ODD, Rounds, Ends, (0, 4), "rounds", Paper("rounds", 0, 4), Denial("rounds", 0, 4), BelowRounds(0, 4),
            told_ring(ROOM), (Rounds(0, 4),), Ends(0, 4),
        )
        for value in others:
            self.assertIs(shows_trip(SPIN, ROOM, (0, 0), 0, value), False)
        for name, paper in (("Rounds", Rounds(0, 4)), ("Ends", Ends("stop", 1)), ("Ends", Rounds(0, 4))):
            other = namesake(name, paper)
            self.assertIs(shows_trip(SPIN, ROOM, (0, 0), 0, other), False)
            self.assertIs(shows_trip(STOP, ROOM, (0, 0), 0, other), False)
        for value in (Paper("ends", "stop", 1), Denial("ends", "stop", 1), BelowEnds("stop", 1), Rounds("stop", 1), 1):
            self.assertIs(shows_trip(STOP, ROOM, (0, 0), 0, value), False)

    def test_errors_in_their_order(self):
        for paper in (Rounds(0, 4), Ends("stop", 1), None, Ends("stop", 0)):
            for value in NO_MICE:
                for rest in ((HALL, (0, 0), 0), (None, None, None), (HALL, (1, 1), 9)):
                    self.assertEqual(told_error(shows_trip, value, *rest, paper), ("BadMouse", "mouse"))
            for value in NO_FLOORS:
                for rest in (((0, 0), 0), (None, None), ((1, 1), 9)):
                    self.assertEqual(told_error(shows_trip, STOP, value, *rest, paper), ("BadFloor", "floor"))
            for value in NO_CELLS:
                for side in (0, 9, None):
                    self.assertEqual(told_error(shows_trip, STOP, HALL, value, side, paper), ("BadCell", "cell"))
            for value in NO_SIDES:
                for cell in ((0, 0), (1, 1)):
                    self.assertEqual(told_error(shows_trip, STOP, HALL, cell, value, paper), ("BadNumber", "side"))
            for cell in OUTSIDE:
                self.assertEqual(told_error(shows_trip, SPIN, HALL, cell, 0, paper), ("Misfit", "cell"))

    def test_what_was_passed_stays(self):
        cell, paper = [0, 0], Rounds(1, 32)
        kept = deepcopy((AROUND.lines, HALL.cells, cell, paper.parts))
        shows_trip(AROUND, HALL, cell, 0, paper)
        self.assertEqual((AROUND.lines, HALL.cells, cell, paper.parts), kept)

    def test_great_trips_in_a_short_time(self):
        begin = time.monotonic()
        ahead = [("lay", stone, stone % 5, stone + 1) for stone in range(12)]
        for cells in GREAT.values():
            floor = Floor(cells)
            mouse = long_mouse(6000, ahead, 12)
            for paper in (Rounds(0, 100000), Rounds(50000, 50000), Ends("stop", 100000)):
                self.assertIs(shows_trip(mouse, floor, floor.cells[0], 2, paper), False)
        self.assertLess(time.monotonic() - begin, 20)


BAR = Floor([(x, 0) for x in range(100)])


def stopper(many):
    """A mouse that stops behind just so many steps on BAR, from its west end, and the side of its nose."""
    # Ahead of each look for the east end it turns about some times; what is left to many it says at the end.
    spins = (many - 300) // 100
    lines = [("turn", at + 1) for at in range(spins - spins % 4)]
    lines += [("wall", 0, len(lines) + 2, len(lines) + 1), ("go", 0)]
    rest = many - judged_steps(Mouse(0, [*lines, ("stop",)]), 1)
    lines += [("say", 0, len(lines) + 1 + at) for at in range(rest)]
    return Mouse(0, [*lines, ("stop",)]), 1


def judged_steps(mouse, side):
    """How many steps a mouse makes on BAR till it stops, counted by a loop of its own."""
    x, line, steps = 0, 0, 0
    while mouse.lines[line][0] != "stop":
        kind = mouse.lines[line][0]
        if kind == "wall":
            line = mouse.lines[line][2 if x == 99 and side == 1 else 3]
        else:
            x += kind == "go"
            side = (side + (kind == "turn")) % 4
            line = mouse.lines[line][-1]
        steps += 1
    return steps + 1


if __name__ == "__main__":
    unittest.main()
