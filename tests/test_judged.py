"""Trips that end, trips that go round, and trips that walk whole."""

import inspect
import time
import unittest
from copy import deepcopy

from fourstones import judged
from fourstones.floors import Floor
from fourstones.judged import Ends, Rounds, judged_trip, seen_in, stands_bound, walks_whole
from fourstones.mice import Mouse
from fourstones.papers import Denial, Paper
from helpers import GREAT, ODD, floors_up_to, some_floors, told_error
from test_trips import NO_CELLS, NO_FLOORS, NO_MICE, NO_SIDES, OUTSIDE, some_trips
from walkers import NO_NUMBERS, long_mouse, some_mouse, states_of

ROOM, HALL = Floor.read("##"), Floor.read("### #.# ###")
SPIN, OFF, STOP = Mouse(0, [("turn", 0)]), Mouse(0, [("go", 0)]), Mouse(0, [("stop",)])
AROUND = Mouse(
    1,
    [("lay", 0, 0, 1), ("wall", 0, 3, 2), ("go", 4), ("turn", 1), ("here", 0, 0, 5, 1), ("take", 0, 6), ("stop",)],
)
OF_TRIPS = (judged_trip, seen_in, walks_whole)


def judged_by_states(mouse, floor, cell, side):
    """The word and the steps, or None, begin and long; the cells seen; whether the trip walks whole."""
    states = [state for state, _ in states_of(mouse, floor, cell, side, 1200)]
    stands = [state[:4] for state in states]
    if states[-1][-1]:
        last = states[-1]
        cells = {state[0] for state in states}
        whole = last[-1] == "stop" and last[0] == tuple(cell) and not any(last[3]) and cells == set(floor.cells)
        return (last[-1], last[4]), cells, whole
    numbers = {}
    for at, stand in enumerate(stands):
        if stand in numbers:
            return (None, numbers[stand], at - numbers[stand]), {stand[0] for stand in stands}, False
        numbers[stand] = at
    raise AssertionError("a trip of too many steps for the tests")


def shortly_judged(many=300):
    """Some trips that end or go round within 1,200 steps, and how they are judged."""
    for mouse, floor, cell, side in some_trips(many):
        try:
            told = judged_by_states(mouse, floor, cell, side)
        except AssertionError:
            continue
        yield (mouse, floor, cell, side), told


class JudgedTest(unittest.TestCase):
    def test_examples(self):
        self.assertEqual(
            [judged_trip(SPIN, ROOM, (0, 0), 0, 9) == Rounds(0, 4),
             judged_trip(OFF, ROOM, (0, 0), 1, 9) == Ends("bump", 2), bool(judged_trip(SPIN, ROOM, (0, 0), 3, 4))],
            [True, True, False],
        )
        self.assertEqual(
            [seen_in(OFF, ROOM, (0, 0), 1, 2), seen_in(SPIN, ROOM, (1, 0), 0, 100), stands_bound(SPIN, ROOM),
             stands_bound(Mouse(2, [("stop",)]), ROOM)],
            [((0, 0), (1, 0)), ((1, 0),), 8, 968],
        )
        told = [judged_trip(AROUND, HALL, (0, 1), 0, 50), judged_trip(AROUND, HALL, (0, 0), 0, 50)]
        self.assertTrue(told == [Ends("stop", 35), Rounds(1, 32)])
        self.assertEqual(
            [walks_whole(AROUND, HALL, (0, 1), 0, 50), walks_whole(AROUND, HALL, (0, 0), 0, 50),
             walks_whole(OFF, ROOM, (0, 0), 1, 9), walks_whole(Mouse(0, [("stop",)]), Floor([(0, 0)]), (0, 0), 2, 1)],
            [True, False, False, True],
        )
        self.assertEqual(told_error(judged_trip, SPIN, ROOM, (0, 0), 0, 3), ("TooMany", "steps", 3))
        self.assertEqual(told_error(judged_trip, SPIN, ROOM, (2, 0), 0, 9), ("Misfit", "cell"))

    def test_interface(self):
        walk = ["mouse", "floor", "cell", "side", "most"]
        asked = {
            "Ends": ["ending", "steps"], "Rounds": ["begin", "long"], "judged_trip": walk, "seen_in": walk,
            "walks_whole": walk, "stands_bound": ["mouse", "floor"],
        }
        for name, parameters in asked.items():
            told = getattr(judged, name)
            self.assertEqual((told.__module__, list(inspect.signature(told).parameters)), ("fourstones.judged", parameters))

    def test_papers(self):
        self.assertEqual((Ends.__bases__, Rounds.__bases__), ((Paper,), (Denial,)))
        ends, rounds = Ends("stop", 3), Rounds(long=[4], begin=0)
        self.assertEqual((ends.word, ends.parts, ends.ending, ends.steps, bool(ends)), ("ends", ("stop", 3), "stop", 3, True))
        self.assertEqual((rounds.word, rounds.parts, rounds.begin, rounds.long), ("rounds", (0, (4,)), 0, (4,)))
        self.assertIs(bool(rounds), False)
        self.assertTrue(ends == Ends(steps=3, ending="stop") and rounds == Rounds(0, (4,)))
        for other in (Ends("stop", 4), Ends("bump", 3), Rounds("stop", 3), Paper("ends", "stop", 3), ("stop", 3), None):
            self.assertIs(ends == other, False)
        for value in ODD:
            if not isinstance(value, (list, tuple)):
                self.assertIs(Ends(value, value).ending, value)
                self.assertIs(Rounds(value, value).long, value)

    def test_judged(self):
        kinds = {}
        for begin, (told, _, _) in shortly_judged():
            paper = Rounds(*told[1:]) if told[0] is None else Ends(*told)
            least = told[1] if told[0] else told[1] + told[2]
            kinds[told[0]] = 1 + kinds.get(told[0], 0)
            kinds["later"] = kinds.get("later", 0) + (told[0] is None and told[1] > 0)
            for most in (least, least + 1, 100000):
                got = judged_trip(*begin, most)
                self.assertTrue(got == paper)
                self.assertEqual((type(got), got.parts), (type(paper), paper.parts))
            mouse, floor, cell, side = begin
            self.assertTrue(judged_trip(most=least, side=side, cell=list(cell), floor=floor, mouse=mouse) == paper)
            if least > 1:
                for asked in OF_TRIPS:
                    self.assertEqual(told_error(asked, *begin, least - 1), ("TooMany", "steps", least - 1))
        self.assertEqual(set(kinds), {"stop", "bump", "fault", None, "later"})
        self.assertGreater(min(kinds.values()), 15)

    def test_seen(self):
        for begin, (told, cells, _) in shortly_judged():
            least = told[1] if told[0] else told[1] + told[2]
            self.assertEqual(seen_in(*begin, least), tuple(sorted(cells)))
            self.assertEqual(seen_in(*begin, most=100000), tuple(sorted(cells)))

    def test_walks(self):
        for begin, (told, _, whole) in shortly_judged():
            self.assertIs(walks_whole(*begin, 100000), whole)

    def test_stop_at_once(self):
        for floor in floors_up_to(4):
            for cell in floor.cells:
                self.assertTrue(judged_trip(STOP, floor, cell, 1, 1) == Ends("stop", 1))
                self.assertEqual(seen_in(STOP, floor, cell, 1, 1), (cell,))
                self.assertIs(walks_whole(STOP, floor, cell, 1, 1), len(floor.cells) == 1)

    def test_what_a_whole_walk_wants(self):
        there = [("go", 1), ("turn", 2), ("turn", 3)]
        back = [*there, ("go", 4)]
        for lines, floor, told in (
            ([*back, ("stop",)], "##", True),
            ([*back, ("stop",)], "###", False),
            ([*there, ("stop",)], "##", False),
            ([*back, ("lay", 0, 4, 5), ("stop",)], "##", False),
            ([*back, ("lay", 0, 4, 5), ("take", 0, 6), ("stop",)], "##", True),
            ([*back, ("go", 4)], "##", False),
            ([*back, ("take", 0, 4)], "##", False),
            ([*back, ("turn", 4)], "##", False),
        ):
            self.assertIs(walks_whole(Mouse(1, lines), Floor.read(floor), (0, 0), 1, 100), told)
        # A stone that lies in the cell where the mouse began is not in its paws.
        self.assertIs(walks_whole(Mouse(1, [("lay", 0, 4, 1), ("stop",)]), Floor.read("#"), (0, 0), 0, 9), False)
        self.assertIs(walks_whole(Mouse(2, [("lay", 1, 4, 1), ("stop",)]), Floor.read("#"), (0, 0), 0, 9), False)

    def test_what_is_said_is_no_part_of_a_stand(self):
        self.assertTrue(judged_trip(Mouse(0, [("say", 5, 0)]), ROOM, (0, 0), 0, 1) == Rounds(0, 1))
        self.assertTrue(judged_trip(Mouse(0, [("say", 5, 1), ("say", 6, 1)]), ROOM, (0, 0), 0, 2) == Rounds(1, 1))
        self.assertEqual(
            told_error(judged_trip, Mouse(0, [("say", 5, 1), ("say", 6, 1)]), ROOM, (0, 0), 0, 1),
            ("TooMany", "steps", 1),
        )

    def test_stones_are_parts_of_a_stand(self):
        # Each time that it comes round the stone lies at another side, till it lies at the first one again.
        lines = [("lay", 0, 0, 1), ("turn", 2), ("take", 0, 0)]
        self.assertTrue(judged_trip(Mouse(1, lines), ROOM, (0, 0), 0, 12) == Rounds(0, 12))
        self.assertTrue(judged_trip(Mouse(1, [("lay", 0, 4, 1), ("turn", 1)]), ROOM, (0, 0), 0, 5) == Rounds(1, 4))
        self.assertEqual(
            told_error(judged_trip, Mouse(1, [("lay", 0, 4, 1), ("turn", 1)]), ROOM, (0, 0), 0, 4), ("TooMany", "steps", 4),
        )


class BoundTest(unittest.TestCase):
    def test_bound(self):
        for mouse, floor, cell, side in some_trips(100):
            cells = len(floor.cells)
            told = stands_bound(mouse, floor)
            self.assertEqual(told, cells * 4 * len(mouse.lines) * (1 + 5 * cells) ** mouse.stones)
            self.assertEqual(told, stands_bound(floor=floor, mouse=mouse))

    def test_great(self):
        floor = Floor(GREAT["square"])
        mouse = some_mouse(1, 12, 6000)
        self.assertEqual(stands_bound(mouse, floor), 400 * 4 * 6000 * 2001 ** 12)
        self.assertEqual(stands_bound(Mouse(12, mouse.lines), Floor([(0, 0)])), 4 * 6000 * 6 ** 12)

    def test_errors(self):
        for value in NO_MICE:
            for floor in (ROOM, None, value):
                self.assertEqual(told_error(stands_bound, value, floor), ("BadMouse", "mouse"))
        for value in NO_FLOORS:
            self.assertEqual(told_error(stands_bound, SPIN, value), ("BadFloor", "floor"))


class ErrorsTest(unittest.TestCase):
    def test_in_their_order(self):
        for asked in OF_TRIPS:
            for most in (1, 0, None):
                for value in NO_MICE:
                    for rest in ((HALL, (0, 0), 0), (None, None, None), (HALL, (1, 1), 9)):
                        self.assertEqual(told_error(asked, value, *rest, most), ("BadMouse", "mouse"))
                for value in NO_FLOORS:
                    for rest in (((0, 0), 0), (None, None), ((1, 1), 9)):
                        self.assertEqual(told_error(asked, STOP, value, *rest, most), ("BadFloor", "floor"))
                for value in NO_CELLS:
                    for side in (0, 9, None):
                        self.assertEqual(told_error(asked, STOP, HALL, value, side, most), ("BadCell", "cell"))
                for value in NO_SIDES:
                    for cell in ((0, 0), (1, 1)):
                        self.assertEqual(told_error(asked, STOP, HALL, cell, value, most), ("BadNumber", "side"))

    def test_most_ahead_of_the_cell(self):
        for asked in OF_TRIPS:
            for most in (*NO_NUMBERS, 0, -1, 100001, 10 ** 5000):
                for cell in ((0, 0), (1, 1)):
                    self.assertEqual(told_error(asked, SPIN, HALL, cell, 0, most), ("BadNumber", "most"))
            for cell in OUTSIDE:
                for mouse in (STOP, SPIN):
                    self.assertEqual(told_error(asked, mouse, HALL, cell, 0, 1), ("Misfit", "cell"))
            self.assertEqual(told_error(asked, SPIN, HALL, (0, 0), 0, 1), ("TooMany", "steps", 1))


class StaysTest(unittest.TestCase):
    def test_what_was_passed_stays(self):
        cell = [0, 1]
        kept = deepcopy((AROUND.stones, AROUND.lines, HALL.cells, cell))
        for asked in OF_TRIPS:
            asked(AROUND, HALL, cell, 0, 50)
        stands_bound(AROUND, HALL)
        self.assertEqual((AROUND.stones, AROUND.lines, HALL.cells, cell), kept)

    def test_great_trips_in_a_short_time(self):
        begin = time.monotonic()
        ahead = [("lay", stone, stone % 5, stone + 1) for stone in range(12)]
        rounds = 0
        for cells in GREAT.values():
            floor = Floor(cells)
            for mouse in (long_mouse(6000, ahead, 12), long_mouse(120, ahead, 12)):
                told = {told_error(asked, mouse, floor, floor.cells[200], 3, 100000) for asked in OF_TRIPS}
                self.assertEqual(len(told), 1)
                if told == {None}:
                    paper = judged_trip(mouse, floor, floor.cells[200], 3, 100000)
                    both = paper.begin + paper.long
                    again = told_error(judged_trip, mouse, floor, floor.cells[200], 3, both - 1)
                    self.assertEqual(again, ("TooMany", "steps", both - 1))
                    rounds += both > 50000
        self.assertGreater(rounds, 2)
        self.assertLess(time.monotonic() - begin, 30)


class SomeFloorsTest(unittest.TestCase):
    def test_a_walk_along_the_rim(self):
        # With the wall at its left hand it comes round, and takes its stone up where it laid it.
        for floor in some_floors():
            for x, y in floor.cells[:3]:
                paper = judged_trip(AROUND, floor, (x, y), 0, 100000)
                told = judged_by_states(AROUND, floor, (x, y), 0)[0]
                self.assertEqual(paper.parts, told if told[0] else told[1:])


if __name__ == "__main__":
    unittest.main()
