"""Reckoners led to scripts and mice."""

import inspect
import time
import unittest
from copy import deepcopy

from fourstones import leadings
from fourstones.floors import Floor
from fourstones.leadings import boxes_in, mouse_for, script_of
from fourstones.leasts import least_of
from fourstones.mice import Mouse
from fourstones.played import played
from fourstones.reckoners import Reckoner
from fourstones.reckonings import told_by
from fourstones.scripts import Script
from fourstones.tables import mouse_of
from fourstones.trips import Trip
from helpers import ODD, told_error
from reckoned import KINDS, reckoned, some_reckoner
from scripters import Player
from test_explorers import COURT, SMALL, floors_of_fourteen
from test_leasts import least_by_rounds
from test_reckonings import BESIDE, CELLS, NO_RECKONERS
from test_rings import row_by_pieces
from test_trips import NO_CELLS, OUTSIDE
from walkers import NO_NUMBERS

THREE = Floor.read("###")
# A row as long as the floor is said, by as many numbers; a box counts down to where another one is; both go beside.
COUNT = Reckoner(2, [
    ("step", 0, 2, 1), ("copy", 1, 0, 2), ("up", 1, 3), ("say", 3, 4), ("same", 0, 1, 5, 2), ("home", 1, 6, 7), ("fault",),
    ("wall", 1, 1, 8, 9), ("stop",), ("step", 1, 1, 10), ("say", 4, 4),
])
SIDES = Reckoner(3, [
    ("wall", 0, 0, 2, 1), ("step", 0, 0, 0), ("say", 0, 3), ("wall", 1, 1, 5, 4), ("step", 1, 1, 3), ("say", 1, 6),
    ("wall", 2, 2, 8, 7), ("step", 2, 2, 6), ("say", 2, 9), ("wall", 2, 3, 11, 10), ("step", 2, 3, 9),
    ("same", 0, 1, 12, 13), ("say", 5, 13), ("same", 1, 2, 14, 15), ("say", 6, 15), ("home", 2, 17, 16), ("step", 0, 3, 17),
    ("copy", 2, 2, 18), ("up", 0, 19), ("say", 7, 20), ("stop",),
])


class StonePlayer(Player):
    """A player who also notes steps, stones and deeds whenever something is said, and at a stop."""

    def __init__(self, *begin):
        super().__init__(*begin)
        self.noted = []

    def do_step(self, word, at):
        if word in ("say", "stop"):
            number = int(self.items[at]) if word == "say" else None
            self.noted.append((number, self.steps, [place and (place[0], place[1] is None) for place in self.stones]))
        return super().do_step(word, at)


def talking(reckoner):
    """The reckoner that also says, behind each line, the number of this line."""
    many = len(reckoner.lines)
    lines = [(*line[:-1], many + at) if line[0] in ("up", "copy", "step", "say") else line
             for at, line in enumerate(reckoner.lines)]
    behind = [("say", 100 + at, line[-1]) if line[0] in ("up", "copy", "step", "say") else ("stop",)
              for at, line in enumerate(reckoner.lines)]
    return Reckoner(reckoner.boxes, lines + behind)


class LeadingsTest(unittest.TestCase):
    def check(self, reckoner, floor, home, side, most=60):
        """Holds the script of a reckoner against its reckoning; how it ended."""
        states = reckoned(reckoner, floor, home, most)
        row = row_by_pieces(floor, home)
        limit = 10000 if len(row) <= 8 else 30000 if len(row) <= 14 else 10 ** 6
        player = StonePlayer(script_of(reckoner).text, floor, home, side, limit * len(states))
        word = player.play() if states[-1][-1] else self.play_a_while(player, len(states[-1][3]))
        self.assertEqual(word or "", states[-1][-1])
        told = [(state[3][-1], state) for state, last in zip(states[1:], states) if len(state[3]) > len(last[3])]
        if word == "stop":
            told.append((None, states[-1]))
        self.assertEqual(len(player.noted), len(told))
        for (number, steps, stones), (wanted, state) in zip(player.noted, told):
            self.assertEqual(number, wanted)
            self.assertEqual(stones[:reckoner.boxes], [(row[at], True) for at in state[0]])
            # The first deeds take as long as a line at most.
            self.assertLessEqual(steps, limit * (state[2] + 1))
        if word:
            self.assertLessEqual(player.steps, limit * len(states))
        return states[-1][-1]

    def play_a_while(self, player, many):
        """Plays till so many numbers are said."""
        if many == 0:
            player.most = 3000
        told = player.do_step

        def do_step(word, at):
            behind = told(word, at)
            if len(player.noted) == many:
                player.most = player.steps
            return behind

        player.do_step = do_step
        return player.play()

    def test_examples(self):
        self.assertEqual([script_of(CELLS).stones, script_of(BESIDE).stones], [5, 6])
        told = played(script_of(CELLS), THREE, (1, 0), 2, 100000)
        self.assertEqual(
            [told.ending, told.said, played(script_of(BESIDE), THREE, (2, 0), 0, 100000).ending],
            ["stop", (1, 1, 1), "bump"],
        )
        trip = Trip(Mouse(1, [("go", 1), ("lay", 0, 4, 2), ("stop",)]), THREE, (1, 0), 1)
        self.assertEqual(
            [boxes_in(trip, 1, (1, 0)), trip.forward(9), boxes_in(trip, 1, (1, 0)), boxes_in(trip, 1, home=(0, 0))],
            [(None,), 3, (1,), (2,)],
        )
        self.assertEqual(told_error(script_of, Reckoner(9, [("stop",)])), ("TooMany", "boxes", 8))

    def test_interface(self):
        asked = {"script_of": ["reckoner"], "mouse_for": ["reckoner"], "boxes_in": ["trip", "boxes", "home"]}
        for name, parameters in asked.items():
            told = getattr(leadings, name)
            self.assertEqual((told.__module__, list(inspect.signature(told).parameters)), ("fourstones.leadings", parameters))

    def test_small_reckoners_from_each_home(self):
        words = {}
        for at, floor in enumerate(SMALL):
            for place, home in enumerate(floor.cells):
                for many, reckoner in enumerate((CELLS, BESIDE)):
                    word = self.check(reckoner, floor, home, (at + place + many) % 4)
                    words[word] = 1 + words.get(word, 0)
        self.assertEqual(set(words), {"stop", "bump"})

    def test_to_each_side(self):
        for floor in (COURT, *SMALL[5:30:6]):
            for home in floor.cells[::3]:
                for side in range(4):
                    for reckoner in (COUNT, SIDES):
                        self.check(reckoner, floor, home, side)

    def test_each_kind_of_line(self):
        for at, floor in enumerate(floors_of_fourteen()):
            home = floor.cells[at % len(floor.cells)]
            self.check((COUNT, SIDES)[at % 2], floor, home, at % 4)

    def test_drawn_reckoners(self):
        floors = SMALL + floors_of_fourteen()
        words = {}
        for seed in range(160):
            floor = floors[seed % len(floors)]
            reckoner = some_reckoner(seed, 1 + seed % 5, 1 + seed % 12)
            word = self.check(reckoner, floor, floor.cells[seed % len(floor.cells)], seed % 4, 40)
            words[word] = 1 + words.get(word, 0)
        self.assertEqual(set(words), {"", "stop", "bump", "fault"})
        self.assertGreater(min(words.values()), 8)

    def test_each_line_takes_few_steps(self):
        for at, floor in enumerate(SMALL[::2] + floors_of_fourteen()[::4]):
            limit = 10000 if len(floor.cells) <= 8 else 30000
            for reckoner in (COUNT, SIDES):
                player = StonePlayer(script_of(talking(reckoner)).text, floor, floor.cells[-1], at % 4, 60 * limit)
                player.play()
                steps = [0, *(noted[1] for noted in player.noted), player.steps]
                self.assertLessEqual(max(later - ahead for ahead, later in zip(steps, steps[1:])), limit)

    def test_one_that_goes_round(self):
        for reckoner in (Reckoner(1, [("up", 0, 0)]), Reckoner(2, [("copy", 0, 1, 0)]), Reckoner(1, [("copy", 0, 0, 0)]),
                         Reckoner(1, [("same", 0, 0, 0, 0)])):
            for floor in (Floor.read("#"), COURT):
                script = script_of(reckoner)
                self.assertEqual(told_error(played, script, floor, (0, 0), 1, 100000), ("TooMany", "steps", 100000))
        talker = script_of(Reckoner(1, [("say", 5, 1), ("up", 0, 2), ("home", 0, 3, 0), ("say", 6, 0)]))
        mouse = mouse_of(talker)
        trip = Trip(mouse, COURT, (0, 0), 2)
        trip.forward(20000)
        self.assertEqual((trip.word, trip.said), ("", (((5,) * 8 + (6,)) * len(trip.said))[:len(trip.said)]))
        self.assertGreater(len(trip.said), 30)

    def test_greater_floors(self):
        floor = Floor.read("###### #....# #.##.# #.##.# #..#.# ######")
        for home in floor.cells[::8]:
            for reckoner in (CELLS, COUNT, SIDES):
                self.check(reckoner, floor, home, 3, 200)

    def test_many_boxes_and_lines(self):
        wide = Reckoner(8, [
            *(("up", at % 8, at + 1) for at in range(12)), ("copy", 7, 0, 13), ("same", 7, 0, 14, 18), ("say", 1, 15),
            ("step", 7, 1, 16), ("home", 7, 17, 17), ("wall", 7, 2, 18, 18), ("say", 2, 19), ("stop",),
            *(("say", at, at + 1) for at in range(20, 59)), ("fault",),
        ])
        self.assertEqual((wide.boxes, len(wide.lines), script_of(wide).stones), (8, 60, 12))
        for floor in (COURT, Floor.read("#### #..# ####")):
            self.check(wide, floor, floor.cells[1], 2, 100)
        for kind in KINDS:
            numbers = {"b": 7, "n": 59, "d": 3, "v": 10 ** 9}
            line = (kind, *(numbers[what] for what in KINDS[kind]))
            script = script_of(Reckoner(8, [line] * 60))
            self.assertEqual((type(script), script.stones), (Script, 12))
        long = Reckoner(1, [*(("say", at, at + 1) for at in range(59)), ("stop",)])
        self.check(long, THREE, (2, 0), 1, 100)
        self.assertEqual(told_by(long, THREE, (2, 0), 100)[1], tuple(range(59)))

    def test_asked_again(self):
        for seed in range(20):
            reckoner = some_reckoner(seed, 1 + seed % 8, 1 + 3 * seed)
            lists = Reckoner(reckoner.boxes, [list(line) for line in reckoner.lines])
            self.assertTrue(script_of(reckoner) == script_of(lists))
            self.assertEqual(type(script_of(reckoner=lists)), Script)
            self.assertTrue(reckoner == lists)


class MouseTest(unittest.TestCase):
    def test_the_least_mouse_of_the_script(self):
        for reckoner in (CELLS, BESIDE):
            mouse = mouse_for(reckoner)
            self.assertTrue(mouse == mouse_of(script_of(reckoner)) and mouse == mouse_for(reckoner=reckoner))
            self.assertTrue(mouse == least_of(mouse))
            self.assertEqual((type(mouse), mouse.stones), (Mouse, reckoner.boxes + 4))
        mouse = mouse_for(Reckoner(1, [("say", 4, 1), ("stop",)]))
        self.assertEqual(mouse.lines, least_by_rounds(mouse.lines))

    def test_one_box_and_four_lines(self):
        begin = time.monotonic()
        for seed in range(80):
            many = 1 + seed % 4
            mouse = mouse_for(some_reckoner(seed, 1, many, list(KINDS)[:7] if seed % 3 else None))
            self.assertLessEqual(len(mouse.lines), 6000)
        for kind in ("up", "step", "wall", "home"):
            rest = {"up": (), "step": (1,), "wall": (1,), "home": ()}[kind]
            to = [(at + 1) % 4 for at in range(4)]
            leads = [(to[at],) if kind in ("up", "step") else (to[at], at) for at in range(4)]
            mouse = mouse_for(Reckoner(1, [(kind, 0, *rest, *leads[at]) for at in range(4)]))
            self.assertLessEqual(len(mouse.lines), 6000)
        self.assertLess(time.monotonic() - begin, 15)

    def test_too_many_lines(self):
        ups = [("up", 0, 1), ("say", 0, 2)]
        while len(ups) < 40:
            ups += [("up", 0, len(ups) + 1), ("say", len(ups), len(ups) + 2)]
        reckoner = Reckoner(1, [*ups, ("stop",)])
        self.assertEqual(told_error(mouse_of, script_of(reckoner)), ("TooMany", "lines", 6000))
        self.assertEqual(told_error(mouse_for, reckoner), ("TooMany", "lines", 6000))

    def test_trips(self):
        for seed in range(60):
            floor = SMALL[seed % len(SMALL)]
            home, side = floor.cells[seed % len(floor.cells)], seed % 4
            reckoner = some_reckoner(seed, 1 + seed % 2, 1 + seed % 6)
            told = told_error(mouse_for, reckoner)
            if told is not None:
                self.assertEqual(told, ("TooMany", "lines", 6000))
                continue
            states = reckoned(reckoner, floor, home, 30)
            says = [state for state, last in zip(states[1:], states) if len(state[3]) > len(last[3])]
            trip = Trip(mouse_for(reckoner), floor, home, side)
            most = 30000 * len(states)
            while trip.word == "" and trip.steps < most and len(trip.said) < len(states[-1][3]):
                many = len(trip.said)
                trip.advance()
                if len(trip.said) > many:
                    self.assertEqual(trip.said, says[many][3])
                    self.assertEqual(boxes_in(trip, reckoner.boxes, home), says[many][0])
            self.assertEqual(trip.said, states[-1][3])
            if states[-1][-1]:
                trip.forward(100000)
                self.assertEqual(trip.word, states[-1][-1])
                if trip.word == "stop":
                    self.assertEqual(boxes_in(trip, reckoner.boxes, home), states[-1][0])
                    self.assertEqual({trip.stones[box][2] for box in range(reckoner.boxes)}, {4})


class BoxesInTest(unittest.TestCase):
    LINES = [("lay", 0, 4, 1), ("go", 2), ("lay", 1, 0, 3), ("turn", 4), ("lay", 2, 3, 5), ("go", 6), ("stop",)]

    def test_at_each_spot(self):
        for spot in range(5):
            for floor in (COURT, THREE):
                for home in floor.cells:
                    for at, cell in enumerate(row_by_pieces(floor, home)):
                        trip = Trip(Mouse(2, [("lay", 1, spot, 0)]), floor, cell, spot % 4)
                        self.assertEqual(boxes_in(trip, 2, home), (None, None))
                        trip.advance()
                        told = boxes_in(trip, 2, list(home))
                        self.assertEqual((told, type(told)), ((None, at), tuple))

    def test_on_the_way(self):
        trip = Trip(Mouse(3, self.LINES), COURT, (0, 0), 0)
        row = row_by_pieces(COURT, (2, 2))
        told = [boxes_in(trip, 3, (2, 2))]
        while trip.advance():
            told.append(boxes_in(trip, 3, (2, 2)))
        first, second = row.index((0, 0)), row.index((0, 1))
        self.assertEqual(told, [(None,) * 3, (first, None, None), (first, None, None), (first, second, None),
                                (first, second, None), (first, second, second)])
        for boxes in range(4):
            self.assertEqual(boxes_in(boxes=boxes, home=(2, 2), trip=trip), (first, second, second)[:boxes])

    def test_nothing_changes(self):
        trip = Trip(Mouse(3, self.LINES), COURT, (0, 0), 0)
        trip.forward(3)
        kept, home = trip.copy(), [0, 1]
        boxes_in(trip, 3, home)
        self.assertTrue(trip == kept and home == [0, 1])
        for wrong in ((trip, 4, home), (trip, 3, (1, 1)), (trip, 3, None)):
            self.assertIsNotNone(told_error(boxes_in, *wrong))
            self.assertTrue(trip == kept)


class ErrorTest(unittest.TestCase):
    def test_no_reckoner(self):
        for value in NO_RECKONERS:
            for call in (script_of, mouse_for):
                self.assertEqual(told_error(call, value), ("BadReckoner", "reckoner"))

    def test_too_many(self):
        for call in (script_of, mouse_for):
            for boxes in range(9, 13):
                for lines in (1, 60, 61, 6000):
                    self.assertEqual(told_error(call, Reckoner(boxes, [("stop",)] * lines)), ("TooMany", "boxes", 8))
            for boxes in (1, 8):
                for lines in (61, 6000):
                    self.assertEqual(told_error(call, Reckoner(boxes, [("stop",)] * lines)), ("TooMany", "lines", 60))
                self.assertIsNone(told_error(call, Reckoner(boxes, [("stop",)] * 60)))

    def test_boxes_in(self):
        trip = Trip(Mouse(2, [("stop",)]), THREE, (1, 0), 0)
        for value in (*ODD, 0, trip.mouse, THREE, vars(trip)):
            self.assertEqual(told_error(boxes_in, value, None, None), ("BadTrip", "trip"))
        for boxes in (*NO_NUMBERS, -1, 3, 10 ** 5000):
            for home in ((0, 0), (5, 5), None):
                self.assertEqual(told_error(boxes_in, trip, boxes, home), ("BadNumber", "boxes"))
        for home in NO_CELLS:
            self.assertEqual(told_error(boxes_in, trip, 2, home), ("BadCell", "home"))
        for home in OUTSIDE:
            self.assertEqual(told_error(boxes_in, trip, 0, home), ("Misfit", "home"))
        self.assertEqual(boxes_in(trip, 0, (0, 0)), ())
        self.assertEqual(told_error(boxes_in, Trip(Mouse(0, [("stop",)]), THREE, (1, 0), 0), 1, (0, 0)), ("BadNumber", "boxes"))

    def test_what_is_passed_stays(self):
        reckoner = Reckoner(2, [["up", 0, 1], ["same", 0, 1, 2, 0], ["stop"]])
        kept = deepcopy(reckoner)
        for call in (script_of, mouse_for):
            told_error(call, reckoner)
            self.assertTrue(reckoner == kept)


if __name__ == "__main__":
    unittest.main()
