"""Reckonings, step by step, and how they end or go round."""

import inspect
import time
import unittest
from copy import deepcopy

from fourstones import reckonings
from fourstones.floors import Floor
from fourstones.judged import Ends, Rounds
from fourstones.mice import Mouse
from fourstones.reckoners import Reckoner
from fourstones.reckonings import Reckoning, judged_reckoning, told_by
from fourstones.rings import row_of
from fourstones.trips import Trip
from helpers import GREAT, ODD, some_floors, told_error
from reckoned import KINDS, reckoned, some_reckoner
from test_trips import NO_CELLS, NO_FLOORS, OUTSIDE
from walkers import NO_NUMBERS

THREE, HALL = Floor.read("###"), Floor.read("### #.# ###")
CELLS = Reckoner(1, [("say", 1, 1), ["up", 0, 2], ("home", 0, 3, 0), ("stop",)])
BESIDE = Reckoner(
    2, [("step", 0, 1, 1), ("copy", 1, 0, 2), ("up", 1, 3), ("same", 0, 1, 4, 5), ("say", 7, 5), ("stop",)],
)
FOR_EVER = Reckoner(1, [("up", 0, 0)])
NO_RECKONERS = (*ODD, 0, 1, str(CELLS), CELLS.lines, (1, CELLS.lines), Mouse(1, [("stop",)]), THREE)
NO_MANY = (*NO_NUMBERS, -1, 100001, 10 ** 5000, -10 ** 5000)
NO_MOST = (*NO_MANY, 0)
JUDGING = (judged_reckoning, told_by)


def state_of(run):
    """All that changes of a reckoning."""
    return (run.boxes, run.line, run.steps, run.said, run.word)


def some_reckonings(many):
    """Reckoners of all kinds, floors and homes."""
    floors = some_floors()
    for seed in range(many):
        floor = floors[seed % len(floors)]
        yield some_reckoner(seed, 1 + seed % 4, 1 + seed % 17), floor, floor.cells[seed % len(floor.cells)]


def on(line, floor=HALL, home=(1, 2), boxes=3, held=()):
    """A reckoning behind its first line, the boxes of which were told to hold numbers; lines 1 and 2 stop."""
    ups = [box for box, number in enumerate(held) for _ in range(number)]
    lines = [("up", box, at + 1) for at, box in enumerate(ups)]
    begin = len(lines)
    lines += [tuple(begin + 1 + to if at >= len(line) - leads(line) else to for at, to in enumerate(line))]
    lines += [("stop",), ("stop",)]
    run = Reckoning(Reckoner(boxes, lines), floor, home)
    run.forward(begin)
    run.advance()
    return run.boxes, run.line - begin - 1, run.said, run.word


def leads(line):
    """How many lines a line leads to."""
    return KINDS[line[0]].count("n")


class ReckoningTest(unittest.TestCase):
    def test_examples(self):
        self.assertEqual(
            [row_of(THREE, (1, 0)), told_by(CELLS, THREE, (1, 0), 100),
             judged_reckoning(CELLS, THREE, (0, 0), 100) == Ends("stop", 10)],
            [((1, 0), (2, 0), (0, 0)), ("stop", (1, 1, 1)), True],
        )
        run = Reckoning(BESIDE, THREE, (1, 0))
        self.assertEqual(
            [run.forward(3), run.boxes, run.line, run.advance(), run.advance(), run.word, run.line, run.steps, run.advance()],
            [3, (1, 2), 3, True, False, "stop", 5, 5, False],
        )
        self.assertEqual(
            [told_by(BESIDE, THREE, (2, 0), 9), judged_reckoning(FOR_EVER, THREE, (2, 0), 9) == Rounds(0, 3)],
            [("bump", ()), True],
        )
        self.assertEqual(told_error(told_by, FOR_EVER, THREE, (2, 0), 9), ("TooMany", "steps", 9))

    def test_interface(self):
        asked = {
            "Reckoning": ["reckoner", "floor", "home"], "judged_reckoning": ["reckoner", "floor", "home", "most"],
            "told_by": ["reckoner", "floor", "home", "most"],
        }
        for name, parameters in asked.items():
            told = getattr(reckonings, name)
            self.assertEqual((told.__module__, list(inspect.signature(told).parameters)),
                             ("fourstones.reckonings", parameters))
        for name in ("__init__", "__eq__", "advance", "forward", "copy"):
            self.assertIn(name, vars(Reckoning))
        self.assertEqual(list(inspect.signature(Reckoning.forward).parameters), ["self", "many"])

    def test_begin(self):
        for boxes in range(1, 13):
            reckoner = Reckoner(boxes, [("stop",)])
            run = Reckoning(reckoner, HALL, [1, 2])
            self.assertTrue(run.reckoner == reckoner and run.floor == HALL)
            self.assertEqual((run.home, type(run.home)), ((1, 2), tuple))
            self.assertEqual((run.boxes, run.line, run.steps, run.said, run.word), ((0,) * boxes, 0, 0, (), ""))
            self.assertTrue(run == Reckoning(home=(1, 2), floor=HALL, reckoner=reckoner))

    def test_states_by_another_row(self):
        words = {}
        for reckoner, floor, home in some_reckonings(300):
            states = reckoned(reckoner, floor, home, 150)
            run = Reckoning(reckoner, floor, home)
            self.assertEqual(state_of(run), states[0])
            for at, state in enumerate(states[1:], start=1):
                goes_on = run.advance()
                self.assertEqual((state_of(run), goes_on), (state, state[-1] == ""))
                for told in (run.boxes, run.said):
                    self.assertIs(type(told), tuple)
                # As well all at once.
                if at in (7, 50, 150):
                    other = Reckoning(reckoner, floor, home)
                    self.assertEqual((other.forward(at), state_of(other)), (at, state))
                    self.assertTrue(other == run)
            words[run.word] = 1 + words.get(run.word, 0)
            if run.word:
                self.assertEqual((run.forward(100), run.advance(), state_of(run)), (0, False, states[-1]))
        self.assertEqual(set(words), {"", "stop", "bump", "fault"})
        self.assertGreater(min(words.values()), 15)

    def test_from_each_home(self):
        reckoner = some_reckoner(4, 2, 12, ["up", "copy", "wall", "step", "same", "home", "say"])
        for floor in some_floors()[:20]:
            for home in floor.cells:
                run = Reckoning(reckoner, floor, home)
                for state in reckoned(reckoner, floor, home, 40)[1:]:
                    run.advance()
                    self.assertEqual(state_of(run), state)


class LinesTest(unittest.TestCase):
    def test_up(self):
        for number in range(8):
            self.assertEqual(on(("up", 1, 1), held=(0, number)), ((0, (number + 1) % 8, 0), 1, (), ""))
        self.assertEqual(on(("up", 0, 0), floor=Floor.read("#"), home=(0, 0)), ((0, 0, 0), 0, (), ""))

    def test_copy(self):
        self.assertEqual(on(("copy", 0, 2, 1), held=(1, 2, 5)), ((5, 2, 5), 1, (), ""))
        self.assertEqual(on(("copy", 2, 0, 0), held=(1, 2, 5)), ((1, 2, 1), 0, (), ""))
        self.assertEqual(on(("copy", 1, 1, 1), held=(1, 2, 5)), ((1, 2, 5), 1, (), ""))

    def test_step(self):
        row = row_of(HALL, (1, 2))
        for number, cell in enumerate(row):
            for side in range(4):
                beside = HALL.beside(cell, side)
                told = on(("step", 1, side, 1), held=(3, number, 4))
                if beside is None:
                    # The line stays the one of the step.
                    self.assertEqual(told, ((3, number, 4), -1, (), "bump"))
                else:
                    self.assertEqual(told, ((3, row.index(beside), 4), 1, (), ""))

    def test_looks(self):
        row = row_of(HALL, (1, 2))
        for number, cell in enumerate(row):
            held = (number, 3, 0)
            self.assertEqual(on(("same", 0, 1, 0, 1), held=held), (held, int(number != 3), (), ""))
            self.assertEqual(on(("same", 0, 0, 0, 1), held=held), (held, 0, (), ""))
            self.assertEqual(on(("home", 0, 0, 1), held=held), (held, int(number != 0), (), ""))
            for side in range(4):
                self.assertEqual(on(("wall", 0, side, 0, 1), held=held),
                                 (held, int(HALL.beside(cell, side) is not None), (), ""))

    def test_say(self):
        for number in (0, 1, 10 ** 9):
            self.assertEqual(on(("say", number, 1)), ((0, 0, 0), 1, (number,), ""))
        run = Reckoning(Reckoner(1, [("say", 5, 1), ("say", 5, 2), ("say", 0, 0)]), THREE, (0, 0))
        self.assertEqual((run.forward(7), run.said), (7, (5, 5, 0, 5, 5, 0, 5)))

    def test_ends(self):
        for word in ("stop", "fault"):
            run = Reckoning(Reckoner(2, [("up", 0, 1), (word,)]), THREE, (0, 0))
            self.assertEqual((run.advance(), run.advance(), run.advance()), (True, False, False))
            self.assertEqual(state_of(run), ((1, 0), 1, 2, (), word))
            self.assertEqual((run.forward(0), run.forward(100000), state_of(run)), (0, 0, ((1, 0), 1, 2, (), word)))

    def test_bump(self):
        run = Reckoning(Reckoner(1, [("step", 0, 3, 0)]), THREE, (2, 0))
        self.assertEqual((run.forward(100000), state_of(run)), (3, ((1,), 0, 3, (), "bump")))
        self.assertEqual((run.advance(), run.forward(5), state_of(run)), (False, 0, ((1,), 0, 3, (), "bump")))

    def test_forward(self):
        run = Reckoning(FOR_EVER, THREE, (0, 0))
        self.assertEqual((run.forward(0), run.steps), (0, 0))
        self.assertEqual((run.forward(many=1), run.steps), (1, 1))
        self.assertEqual((run.forward(100000), run.steps, run.boxes), (100000, 100001, (100001 % 3,)))


class EqualTest(unittest.TestCase):
    def test_copies_stay(self):
        for reckoner, floor, home in some_reckonings(60):
            run = Reckoning(reckoner, floor, home)
            run.forward(9)
            kept = run.copy()
            told = state_of(kept)
            self.assertTrue(kept == run and type(kept) is Reckoning)
            self.assertEqual(state_of(run), told)
            self.assertEqual((kept.home, kept.floor == floor, kept.reckoner == reckoner), (run.home, True, True))
            went = run.forward(11)
            self.assertEqual(state_of(kept), told)
            self.assertIs(kept == run, went == 0)
            self.assertEqual((kept.forward(11), kept == run), (went, True))

    def test_equal(self):
        run = Reckoning(CELLS, THREE, (0, 0))
        others = [
            Reckoning(Reckoner(1, [*CELLS.lines, ("stop",)]), THREE, (0, 0)), Reckoning(CELLS, Floor.read("####"), (0, 0)),
            Reckoning(CELLS, THREE, (1, 0)), None, CELLS, vars(run), str(run), Trip(Mouse(1, [("stop",)]), THREE, (0, 0), 0),
        ]
        for name, value in (("home", (1, 0)), ("boxes", (1,)), ("line", 1), ("steps", 1), ("said", (1,)), ("word", "stop")):
            others.append(run.copy())
            setattr(others[-1], name, value)
        for other in others:
            self.assertIs(run == other, False)
            self.assertIs(run != other, True)
        self.assertTrue(run == Reckoning(Reckoner.read(str(CELLS)), Floor([(5, 5), (6, 5), (7, 5)]), [0, 0]))
        run.advance()
        self.assertIs(run == Reckoning(CELLS, THREE, (0, 0)), False)

    def test_nothing_else_changes(self):
        lines = [["up", 0, 1], ["wall", 0, 0, 0, 2], ["stop"]]
        reckoner, floor, home = Reckoner(1, lines), Floor(HALL.cells), [1, 2]
        kept = deepcopy((reckoner, floor, home))
        run = Reckoning(reckoner, floor, home)
        run.forward(100)
        for asked in JUDGING:
            told_error(asked, reckoner, floor, home, 100)
        self.assertTrue((reckoner, floor, home) == kept)
        home[0] = 0
        self.assertEqual(run.home, (1, 2))


class JudgedTest(unittest.TestCase):
    def judged_by_states(self, reckoner, floor, home):
        """None for a reckoning that is too long, otherwise its word, None if it goes round, and two numbers."""
        states = reckoned(reckoner, floor, home, 500)
        if states[-1][-1]:
            return states[-1][-1], len(states) - 1, states[-1][3]
        numbers = {}
        for at, state in enumerate(states):
            if state[:2] in numbers:
                return None, numbers[state[:2]], at - numbers[state[:2]]
            numbers[state[:2]] = at
        return None

    def test_judged(self):
        kinds = {}
        for begin in some_reckonings(400):
            told = self.judged_by_states(*begin)
            if told is None:
                continue
            paper = Rounds(*told[1:]) if told[0] is None else Ends(*told[:2])
            least = told[1] if told[0] else told[1] + told[2]
            kinds[told[0]] = 1 + kinds.get(told[0], 0)
            kinds["later"] = kinds.get("later", 0) + (told[0] is None and told[1] > 0)
            for most in (least, least + 1, 100000):
                got = judged_reckoning(*begin, most)
                self.assertTrue(got == paper)
                self.assertEqual((type(got), got.parts), (type(paper), paper.parts))
                if told[0]:
                    self.assertEqual(told_by(*begin, most), (told[0], told[2]))
                elif most < 1000:
                    self.assertEqual(told_error(told_by, *begin, most), ("TooMany", "steps", most))
            reckoner, floor, home = begin
            self.assertTrue(judged_reckoning(most=least, home=list(home), floor=floor, reckoner=reckoner) == paper)
            if least > 1:
                for asked in JUDGING:
                    self.assertEqual(told_error(asked, *begin, least - 1), ("TooMany", "steps", least - 1))
        self.assertEqual(set(kinds), {"stop", "bump", "fault", None, "later"})
        self.assertGreater(min(kinds.values()), 15)

    def test_pair(self):
        told = told_by(CELLS, THREE, (0, 0), 10)
        self.assertEqual((type(told), type(told[1]), told), (tuple, tuple, ("stop", (1, 1, 1))))
        self.assertEqual(told_by(home=(0, 0), most=10, floor=THREE, reckoner=CELLS), told)
        self.assertEqual(told_by(Reckoner(1, [("fault",)]), THREE, (0, 0), 1), ("fault", ()))

    def test_rounds(self):
        later = Reckoner(1, [("say", 4, 1), ("up", 0, 2), ("up", 0, 2)])
        self.assertEqual(judged_reckoning(later, THREE, (0, 0), 5).parts, (2, 3))
        self.assertEqual(told_error(judged_reckoning, later, THREE, (0, 0), 4), ("TooMany", "steps", 4))
        # What was said is no part of a stand.
        self.assertEqual(judged_reckoning(Reckoner(1, [("say", 1, 0)]), THREE, (0, 0), 1).parts, (0, 1))
        self.assertIs(bool(judged_reckoning(FOR_EVER, THREE, (0, 0), 3)), False)
        self.assertIs(bool(judged_reckoning(CELLS, THREE, (0, 0), 10)), True)


class ErrorTest(unittest.TestCase):
    def test_wrong_values(self):
        for value in NO_RECKONERS:
            self.assertEqual(told_error(Reckoning, value, None, None), ("BadReckoner", "reckoner"))
            for asked in JUDGING:
                self.assertEqual(told_error(asked, value, None, None, None), ("BadReckoner", "reckoner"))
        for value in (*NO_FLOORS, CELLS):
            self.assertEqual(told_error(Reckoning, CELLS, value, None), ("BadFloor", "floor"))
            for asked in JUDGING:
                self.assertEqual(told_error(asked, CELLS, value, None, None), ("BadFloor", "floor"))
        for value in NO_CELLS:
            self.assertEqual(told_error(Reckoning, CELLS, THREE, value), ("BadCell", "home"))
            for asked in JUDGING:
                self.assertEqual(told_error(asked, CELLS, THREE, value, None), ("BadCell", "home"))
        for home in (*OUTSIDE, [10 ** 6, 0]):
            self.assertEqual(told_error(Reckoning, CELLS, THREE, home), ("Misfit", "home"))
            for asked in JUDGING:
                self.assertEqual(told_error(asked, CELLS, THREE, home, 1), ("Misfit", "home"))
                # A wrong most comes ahead of a home that is none of the floor.
                for most in NO_MOST:
                    self.assertEqual(told_error(asked, CELLS, THREE, home, most), ("BadNumber", "most"))
        for asked in JUDGING:
            for most in NO_MOST:
                self.assertEqual(told_error(asked, CELLS, THREE, (0, 0), most), ("BadNumber", "most"))
            self.assertEqual(told_error(asked, CELLS, THREE, (0, 0), 1), ("TooMany", "steps", 1))

    def test_wrong_many_changes_nothing(self):
        run = Reckoning(BESIDE, THREE, (1, 0))
        for went in (0, 3, 2):
            run.forward(went)
            told = (*state_of(run), run.home)
            for many in NO_MANY:
                self.assertEqual(told_error(run.forward, many), ("BadNumber", "many"))
                self.assertEqual((*state_of(run), run.home), told)
        self.assertEqual(run.word, "stop")


class GreatTest(unittest.TestCase):
    def test_in_a_short_time(self):
        begin = time.monotonic()
        for name, cells in GREAT.items():
            floor = Floor(cells)
            # Each box goes once through the row for each step of the next one.
            odometer = Reckoner(3, [("up", 0, 1), ("home", 0, 2, 0), ("up", 1, 3), ("home", 1, 4, 0), ("up", 2, 0)])
            run = Reckoning(odometer, floor, floor.cells[-1])
            self.assertEqual(run.forward(100000), 100000, name)
            self.assertEqual(told_error(told_by, odometer, floor, floor.cells[-1], 100000), ("TooMany", "steps", 100000))
        great = some_reckoner(1, 12, 6000, ["up", "copy", "same", "wall", "home", "say"])
        for asked in JUDGING:
            told_error(asked, great, Floor(GREAT["lattice"]), (0, 0), 100000)
        talker = Reckoner(1, [("say", 1, 0)])
        run = Reckoning(talker, THREE, (0, 0))
        self.assertEqual((run.forward(100000), run.said), (100000, (1,) * 100000))
        self.assertLess(time.monotonic() - begin, 10)


if __name__ == "__main__":
    unittest.main()
