"""Trips, step by step and many steps at once."""

import inspect
import time
import unittest
from copy import deepcopy

from fourstones import trips
from fourstones.floors import Floor
from fourstones.mice import Mouse
from fourstones.trips import Trip, deeds_of, stand_text
from helpers import GREAT, ODD, SHIFTS, some_floors, told_error
from walkers import KINDS, NO_NUMBERS, long_mouse, some_mouse, states_of

CORRIDOR = Floor.read("###")
COURT = Floor.read("### #.# ###")
STOP = Mouse(0, [("stop",)])
TURNER = Mouse(1, [("lay", 0, 4, 1), ("turn", 2), ["north", 3, 1], ("take", 0, 4), ("stop",)])
RUNNER = Mouse(
    1,
    [("wall", 0, 2, 1), ("go", 0), ("lay", 0, 0, 3), ("turn", 4), ("here", 0, 3, 5, 6), ("say", 7, 6), ("go", 6)],
)
NO_MICE = (*ODD, 0, "0 / stop", (0, [("stop",)]), COURT)
NO_FLOORS = (*ODD, 0, COURT.cells, STOP)
NO_CELLS = (*ODD, 0, (0,), (0, 0, 0), (0, True), [False, 0], ("0", 0), (0, None), (10 ** 6 + 1, 0), (0, -10 ** 5000))
NO_SIDES = (*NO_NUMBERS, -1, 4, 10 ** 5000)
OUTSIDE = ((1, 1), [1, 1], (3, 0), (0, -1), (-1, 2), (10 ** 6, -10 ** 6))


def state_of(trip):
    """All that changes of a trip."""
    return (trip.cell, trip.nose, trip.line, trip.stones, trip.steps, trip.said, trip.word)


def some_trips(many=400):
    """Mice of many kinds, floors, cells and sides."""
    floors = some_floors()
    for seed in range(many):
        floor = floors[seed % len(floors)]
        mouse = some_mouse(seed, seed % 5 if seed % 7 else 12, 2 + seed % 23)
        yield mouse, floor, floor.cells[seed % len(floor.cells)], seed % 4


def one_line(line, cell=(0, 0), side=0, floor=CORRIDOR, ahead=()):
    """A trip that has done the lines ahead, and then this one; both its numbers of lines are those of a stop."""
    lines = [*ahead, line]
    lines += [("stop",)] * 2
    trip = Trip(Mouse(2, lines), floor, cell, side)
    trip.forward(len(ahead) + 1)
    return trip


class TripTest(unittest.TestCase):
    def test_examples(self):
        trip = Trip(TURNER, CORRIDOR, (1, 0), 2)
        self.assertEqual(
            [trip.advance(), trip.stones, stand_text(trip), trip.forward(4), trip.nose, trip.line, trip.word],
            [True, ((1, 0, 4),), "1 0 2 1 1 / 1 0 4 / -", 4, 0, 3, ""],
        )
        self.assertEqual(
            [trip.forward(100), trip.word, trip.stones, trip.advance(), stand_text(trip)],
            [2, "stop", (None,), False, "1 0 0 4 7 / - / stop"],
        )
        self.assertEqual(deeds_of(TURNER, CORRIDOR, (0, 0), 3, 100), (("lay", 0, 4), ("turn",), ("take", 0)))
        told = Trip(RUNNER, CORRIDOR, (0, 0), 1)
        self.assertEqual(
            [told.forward(100), told.cell, told.nose, told.stones, told.said, told.word, told.line],
            [10, (2, 0), 2, ((2, 0, 1),), (7,), "bump", 6],
        )
        self.assertEqual(
            [deeds_of(RUNNER, CORRIDOR, (0, 0), 1, 10)[:2], deeds_of(RUNNER, CORRIDOR, (0, 0), 1, 10)[2:]],
            [(("go",), ("go",)), (("lay", 0, 0), ("turn",), ("say", 7))],
        )
        self.assertEqual(told_error(deeds_of, RUNNER, CORRIDOR, (0, 0), 1, 9), ("TooMany", "steps", 9))
        self.assertEqual(told_error(Trip, Mouse(1, [("take", 0, 0)]), CORRIDOR, (3, 0), 0), ("Misfit", "cell"))

    def test_interface(self):
        for name in ("__init__", "__eq__", "advance", "forward", "copy"):
            self.assertIn(name, vars(Trip))
        asked = {
            "Trip": ["mouse", "floor", "cell", "side"], "deeds_of": ["mouse", "floor", "cell", "side", "most"],
            "stand_text": ["trip"],
        }
        for name, parameters in asked.items():
            told = getattr(trips, name)
            self.assertEqual((told.__module__, list(inspect.signature(told).parameters)), ("fourstones.trips", parameters))
        self.assertEqual(list(inspect.signature(Trip.forward).parameters), ["self", "many"])

    def test_begin(self):
        for mouse, floor, cell, side in some_trips(60):
            for trip in (Trip(mouse, floor, cell, side), Trip(side=side, cell=list(cell), floor=floor, mouse=mouse)):
                self.assertTrue(trip.mouse == mouse and trip.floor == floor)
                self.assertEqual(state_of(trip), (cell, side, 0, (None,) * mouse.stones, 0, (), ""))
                self.assertEqual({type(trip.cell), type(trip.stones), type(trip.said)}, {tuple})

    def test_one_step_at_a_time(self):
        words, kinds, long = {}, set(), 0
        for mouse, floor, cell, side in some_trips():
            trip = Trip(mouse, floor, cell, side)
            states = states_of(mouse, floor, cell, side, 60)
            self.assertEqual(state_of(trip), states[0][0])
            for state, _ in states[1:]:
                kinds.add(mouse.lines[trip.line][0])
                self.assertIs(trip.advance(), state[-1] == "")
                self.assertEqual(state_of(trip), state)
            words[trip.word] = 1 + words.get(trip.word, 0)
            long += trip.steps > 10
        self.assertEqual((set(words), kinds), ({"", "stop", "bump", "fault"}, set(KINDS)))
        self.assertGreater(min(words.values()), 15)
        self.assertGreater(long, 60)

    def test_many_steps_at_once(self):
        for mouse, floor, cell, side in some_trips():
            states = states_of(mouse, floor, cell, side, 100)
            last = len(states) - 1
            for many in (0, 1, 2, 5, last - 1, last, 100):
                trip = Trip(mouse, floor, cell, side)
                made = trip.forward(max(many, 0))
                self.assertEqual((made, state_of(trip)), (min(max(many, 0), last), states[made][0]))
                rest = trip.forward(many=100 - made)
                self.assertEqual((made + rest, state_of(trip)), (last, states[last][0]))

    def test_nothing_changes_behind_the_end(self):
        for mouse, floor, cell, side in some_trips(150):
            trip = Trip(mouse, floor, cell, side)
            trip.forward(1000)
            if trip.word:
                kept = state_of(trip)
                self.assertEqual((trip.advance(), trip.forward(100000), trip.forward(0)), (False, 0, 0))
                self.assertEqual(state_of(trip), kept)

    def test_go(self):
        for x, y in COURT.cells:
            for side, (right, up) in SHIFTS.items():
                trip = one_line(("go", 2), (x, y), side, COURT)
                if COURT.has((x + right, y + up)):
                    self.assertEqual(state_of(trip), ((x + right, y + up), side, 2, (None, None), 1, (), ""))
                else:
                    self.assertEqual(state_of(trip), ((x, y), side, 0, (None, None), 1, (), "bump"))

    def test_turn(self):
        self.assertEqual([one_line(("turn", 1), side=side).nose for side in range(4)], [1, 2, 3, 0])
        self.assertEqual(state_of(one_line(("turn", 2), (1, 0), 3)), ((1, 0), 0, 2, (None, None), 1, (), ""))

    def test_lay_and_take(self):
        for side in range(4):
            for spot in range(5):
                place = (1, 0, 4 if spot == 4 else (side + spot) % 4)
                lay = ("lay", 1, spot, 1)
                self.assertEqual(state_of(one_line(lay, (1, 0), side))[:5], ((1, 0), side, 1, (None, place), 1))
                # It keeps its side of the cell wherever the nose points later.
                turned = one_line(("turn", 2), (1, 0), side, ahead=[lay])
                self.assertEqual((turned.nose, turned.stones), ((side + 1) % 4, (None, place)))
                taken = one_line(("take", 1, 3), (1, 0), side, ahead=[lay, ("turn", 2)])
                self.assertEqual(state_of(taken), ((1, 0), (side + 1) % 4, 3, (None, None), 3, (), ""))
                twice = one_line(("lay", 1, 0, 2), (1, 0), side, ahead=[lay])
                self.assertEqual(state_of(twice), ((1, 0), side, 1, (None, place), 2, (), "fault"))

    def test_several_stones_at_one_spot(self):
        trip = one_line(("lay", 1, 3, 2), ahead=[("lay", 0, 3, 1)])
        self.assertEqual((trip.stones, trip.word), (((0, 0, 3), (0, 0, 3)), ""))
        trip = one_line(("take", 0, 3), ahead=[("lay", 0, 3, 1), ("lay", 1, 3, 2)])
        self.assertEqual((trip.stones, trip.word), ((None, (0, 0, 3)), ""))

    def test_faults_of_take(self):
        self.assertEqual(state_of(one_line(("take", 0, 1))), ((0, 0), 0, 0, (None, None), 1, (), "fault"))
        trip = one_line(("take", 0, 3), (0, 0), 1, ahead=[("lay", 0, 4, 1), ("go", 2)])
        self.assertEqual(state_of(trip), ((1, 0), 1, 2, ((0, 0, 4), None), 3, (), "fault"))
        # A stone that was taken up can be laid again.
        trip = one_line(("lay", 0, 0, 3), (0, 0), 1, ahead=[("lay", 0, 4, 1), ("take", 0, 2)])
        self.assertEqual((trip.stones, trip.word), (((0, 0, 1), None), ""))

    def test_say(self):
        for number in (0, 7, 10 ** 9):
            self.assertEqual(state_of(one_line(("say", number, 2))), ((0, 0), 0, 2, (None, None), 1, (number,), ""))
        trip = one_line(("say", 2, 3), ahead=[("say", 5, 1), ("say", 5, 2)])
        self.assertEqual(trip.said, (5, 5, 2))

    def test_look_for_walls(self):
        for x, y in COURT.cells:
            for side in SHIFTS:
                for spot in range(4):
                    right, up = SHIFTS[(side + spot) % 4]
                    trip = one_line(("wall", spot, 1, 2), (x, y), side, COURT)
                    self.assertEqual(trip.line, 2 if COURT.has((x + right, y + up)) else 1)
                    self.assertEqual((trip.cell, trip.nose, trip.steps, trip.word), ((x, y), side, 1, ""))

    def test_look_for_stones(self):
        for laid in range(5):
            for turns in range(5):
                for spot in range(5):
                    ahead = [("lay", 1, laid, 1), *(("turn", at) for at in range(2, 2 + turns))]
                    at = len(ahead)
                    there = spot == 4 if laid == 4 else spot < 4 and (turns + spot - laid) % 4 == 0
                    self.assertEqual(one_line(("here", 1, spot, at + 1, at + 2), ahead=ahead).line, at + 2 - there)
                    self.assertEqual(one_line(("here", 0, spot, at + 1, at + 2), ahead=ahead).line, at + 2)
        # A stone that lies at this spot of another cell is not here.
        ahead = [("lay", 0, 4, 1), ("go", 2)]
        self.assertEqual(one_line(("here", 0, 4, 3, 4), (0, 0), 1, ahead=ahead).line, 4)

    def test_look_into_paws_and_at_nose(self):
        self.assertEqual(one_line(("held", 0, 1, 2)).line, 1)
        for stone, line in ((0, 3), (1, 2)):
            self.assertEqual(one_line(("held", stone, 2, 3), ahead=[("lay", 0, 4, 1)]).line, line)
        self.assertEqual([one_line(("north", 1, 2), side=side).line for side in range(4)], [1, 2, 2, 2])

    def test_stop(self):
        trip = one_line(("stop",), (2, 0), 3, ahead=[("turn", 1)])
        self.assertEqual(state_of(trip), ((2, 0), 0, 1, (None, None), 2, (), "stop"))

    def test_forward_bounds(self):
        trip = Trip(TURNER, CORRIDOR, (1, 0), 2)
        trip.advance()
        kept = state_of(trip)
        for many in (*NO_NUMBERS, -1, 100001, 10 ** 5000):
            self.assertEqual(told_error(trip.forward, many), ("BadNumber", "many"))
            self.assertEqual(state_of(trip), kept)
        self.assertEqual((trip.forward(0), state_of(trip)), (0, kept))
        self.assertEqual((trip.forward(100000), trip.word), (6, "stop"))
        self.assertEqual(told_error(trip.forward, True), ("BadNumber", "many"))
        spin = Trip(Mouse(0, [("turn", 0)]), CORRIDOR, (0, 0), 0)
        self.assertEqual((spin.forward(100000), spin.steps, spin.nose), (100000, 100000, 0))

    def test_copies_stay(self):
        for mouse, floor, cell, side in some_trips(150):
            trip = Trip(mouse, floor, cell, side)
            trip.forward(7)
            kept = state_of(trip)
            other = trip.copy()
            self.assertIsNot(other, trip)
            self.assertTrue(other == trip and other.mouse == mouse and other.floor == floor)
            trip.forward(9)
            self.assertEqual((type(other), state_of(other)), (Trip, kept))
            self.assertIs(other == trip, state_of(trip) == kept)
            other.forward(9)
            self.assertTrue(other == trip)
            self.assertEqual(state_of(other), state_of(trip))

    def test_equal(self):
        def made(mouse=TURNER, floor=CORRIDOR, cell=(1, 0), side=2):
            return Trip(mouse, floor, cell, side)

        self.assertTrue(made() == made(cell=[1, 0]))
        self.assertFalse(made() != made(Mouse(1, list(TURNER.lines)), Floor.read("###")))
        other_line = Mouse(1, [*TURNER.lines[:4], ("go", 0)])
        others = (made(other_line), made(floor=Floor.read("####")), made(cell=(0, 0)), made(side=3))
        for other in (*others, None, TURNER, state_of(made()), stand_text(made()), Trip, True):
            self.assertIs(made() == other, False)
            self.assertIs(made() != other, True)
        # Both come to the same state behind as many steps, but said other numbers.
        lines = [("north", 1, 6), ("say", 1, 2), ("turn", 3), ("turn", 4), ("turn", 5), ("turn", 9)]
        lines += [("say", 2, 7), ("north", 8, 8), ("turn", 4), ("stop",)]
        one, other = Trip(Mouse(0, lines), CORRIDOR, (0, 0), 0), Trip(Mouse(0, lines), CORRIDOR, (0, 0), 1)
        self.assertEqual((one.forward(6), other.forward(6)), (6, 6))
        self.assertEqual((stand_text(one), one.said, other.said), (stand_text(other), (1,), (2,)))
        self.assertIs(one == other, False)
        spin = Mouse(0, [("turn", 0)])
        one, other = Trip(spin, CORRIDOR, (0, 0), 0), Trip(spin, CORRIDOR, (0, 0), 0)
        one.forward(4)
        self.assertEqual((one.cell, one.nose, one.line), (other.cell, other.nose, other.line))
        self.assertIs(one == other, False)
        other.forward(4)
        self.assertIs(one == other, True)


class DeedsTest(unittest.TestCase):
    def test_in_order_and_just_enough_steps(self):
        ended = 0
        for mouse, floor, cell, side in some_trips():
            states = states_of(mouse, floor, cell, side, 200)
            steps = len(states) - 1
            if states[-1][0][-1]:
                ended += 1
                deeds = tuple(deed for _, deed in states if deed is not None)
                for most in (steps, steps + 1, 100000):
                    self.assertEqual(deeds_of(mouse, floor, list(cell), side, most), deeds)
                self.assertEqual(deeds_of(most=steps, side=side, cell=cell, floor=floor, mouse=mouse), deeds)
                steps -= 1
            if steps:
                told = told_error(deeds_of, mouse, floor, cell, side, steps)
                self.assertEqual(told, ("TooMany", "steps", steps))
        self.assertGreater(ended, 200)

    def test_bumps_and_faults_are_not_done(self):
        for lines, deeds in (
            ([("turn", 1), ("go", 0)], (("turn",), ("go",), ("turn",))), ([("lay", 0, 4, 0)], (("lay", 0, 4),)),
            ([("take", 0, 0)], ()), ([("stop",)], ()), ([("say", 3, 1), ("go", 1)], (("say", 3),)),
        ):
            self.assertEqual(deeds_of(Mouse(1, lines), Floor.read("##"), (0, 0), 0, 50), deeds)

    def test_a_trip_that_goes_round(self):
        self.assertEqual(
            told_error(deeds_of, Mouse(0, [("turn", 0)]), CORRIDOR, (0, 0), 0, 100000), ("TooMany", "steps", 100000),
        )


class StandTextTest(unittest.TestCase):
    def test_begin_way_and_end(self):
        for mouse, floor, cell, side in some_trips(150):
            trip = Trip(mouse, floor, cell, side)
            for _ in range(12):
                numbers = (*trip.cell, trip.nose, trip.line, trip.steps)
                stones = [" / " + ("-" if place is None else " ".join(map(str, place))) for place in trip.stones]
                told = " ".join(map(str, numbers)) + "".join(stones) + " / " + (trip.word or "-")
                self.assertEqual(stand_text(trip), told)
                self.assertEqual(stand_text(trip=trip), told)
                trip.forward(4)

    def test_stones_at_each_spot(self):
        lines = [("lay", spot, spot, spot + 1) for spot in range(5)]
        trip = Trip(Mouse(6, [*lines, ("go", 0)]), Floor.read("## ##"), (1, 1), 1)
        self.assertEqual(stand_text(trip), "1 1 1 0 0 / - / - / - / - / - / - / -")
        trip.forward(5)
        self.assertEqual(stand_text(trip), "1 1 1 5 5 / 1 1 1 / 1 1 2 / 1 1 3 / 1 1 0 / 1 1 4 / - / -")
        trip.advance()
        self.assertEqual(stand_text(trip), "1 1 1 5 6 / 1 1 1 / 1 1 2 / 1 1 3 / 1 1 0 / 1 1 4 / - / bump")

    def test_words(self):
        self.assertEqual(stand_text(Trip(STOP, CORRIDOR, (2, 0), 3)), "2 0 3 0 0 / -")
        for lines, told in (([("stop",)], "stop"), ([("take", 0, 0)], "fault"), ([("go", 0)], "bump")):
            trip = Trip(Mouse(1, lines), CORRIDOR, (0, 0), 0)
            trip.forward(3)
            self.assertEqual(stand_text(trip), "0 0 0 0 1 / - / " + told)

    def test_no_trip(self):
        for value in (*ODD, 0, STOP, COURT, "0 0 0 0 0 / -", Trip):
            self.assertEqual(told_error(stand_text, value), ("BadTrip", "trip"))


class ErrorsTest(unittest.TestCase):
    def begin_errors(self, asked, *most):
        """The errors of the first four parameters, in their order, whatever is wrong behind them."""
        for value in NO_MICE:
            for rest in ((COURT, (0, 0), 0), (None, None, None), (COURT, (1, 1), 9)):
                self.assertEqual(told_error(asked, value, *rest, *most), ("BadMouse", "mouse"))
        for value in NO_FLOORS:
            for rest in (((0, 0), 0), (None, None), ((1, 1), 9)):
                self.assertEqual(told_error(asked, STOP, value, *rest, *most), ("BadFloor", "floor"))
        for value in NO_CELLS:
            for side in (0, 9, None):
                self.assertEqual(told_error(asked, STOP, COURT, value, side, *most), ("BadCell", "cell"))
        for value in NO_SIDES:
            for cell in ((0, 0), (1, 1)):
                self.assertEqual(told_error(asked, STOP, COURT, cell, value, *most), ("BadNumber", "side"))

    def test_trip(self):
        self.begin_errors(Trip)
        for cell in OUTSIDE:
            self.assertEqual(told_error(Trip, STOP, COURT, cell, 0), ("Misfit", "cell"))

    def test_deeds(self):
        for most in (1, 0, None, 100001):
            self.begin_errors(deeds_of, most)
        for most in (*NO_NUMBERS, 0, -1, 100001, 10 ** 5000):
            for cell in ((0, 0), (1, 1)):
                self.assertEqual(told_error(deeds_of, STOP, COURT, cell, 0, most), ("BadNumber", "most"))
        for cell in OUTSIDE:
            for mouse in (STOP, RUNNER):
                self.assertEqual(told_error(deeds_of, mouse, COURT, cell, 0, 1), ("Misfit", "cell"))
        self.assertEqual(told_error(deeds_of, RUNNER, COURT, (0, 0), 0, 1), ("TooMany", "steps", 1))


class StaysTest(unittest.TestCase):
    def test_what_was_passed_stays(self):
        cell = [0, 0]
        kept = deepcopy((RUNNER.stones, RUNNER.lines, COURT.cells, str(COURT), cell))
        trip = Trip(RUNNER, COURT, cell, 1)
        trip.forward(50)
        deeds_of(RUNNER, COURT, cell, 1, 100)
        text = stand_text(trip)
        self.assertEqual(stand_text(trip), text)
        self.assertEqual((RUNNER.stones, RUNNER.lines, COURT.cells, str(COURT), cell), kept)
        cell[0] = 2
        self.assertEqual(Trip(RUNNER, COURT, [0, 0], 1).cell, (0, 0))

    def test_a_cell_that_is_changed_afterwards(self):
        cell = [0, 0]
        trip = Trip(RUNNER, COURT, cell, 1)
        cell[0] = 2
        self.assertEqual(trip.cell, (0, 0))

    def test_great_trips_in_a_short_time(self):
        begin = time.monotonic()
        ahead = [("lay", stone, stone % 5, stone + 1) for stone in range(12)]
        for cells in GREAT.values():
            floor = Floor(cells)
            trip = Trip(long_mouse(6000, ahead, 12), floor, floor.cells[200], 3)
            self.assertEqual(trip.forward(100000), 100000)
            self.assertEqual(trip.copy() == trip, True)
        sayer = Mouse(0, [("say", 10 ** 9, 0)])
        trip = Trip(sayer, CORRIDOR, (0, 0), 0)
        self.assertEqual((trip.forward(100000), len(trip.said)), (100000, 100000))
        slow = Trip(long_mouse(6000), CORRIDOR, (0, 0), 0)
        for _ in range(100000):
            slow.advance()
        self.assertEqual(slow.steps, 100000)
        many = Mouse(0, [*(("say", at, (at + 1)) for at in range(5999)), ("stop",)])
        self.assertEqual(len(deeds_of(many, CORRIDOR, (0, 0), 0, 6000)), 5999)
        self.assertLess(time.monotonic() - begin, 20)


if __name__ == "__main__":
    unittest.main()
