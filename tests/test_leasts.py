"""Least mice, and mice that do the same."""

import inspect
import random
import time
import unittest
from copy import deepcopy
from itertools import product

from fourstones import leasts
from fourstones.floors import Floor
from fourstones.leasts import Alike, Unlike, judged_mice, least_of, shows_mice
from fourstones.mice import Mouse
from fourstones.papers import Denial, Paper
from fourstones.trips import Trip
from helpers import ODD, namesake, told_error
from test_trips import NO_MICE
from walkers import KINDS, long_mouse, some_line, some_mouse

UNTIL = Mouse(0, [("wall", 0, 1, 2), ("stop",), ("go", 0)])
TURNING = Mouse(0, [("wall", 0, 2, 1), ("turn", 0), ("stop",)])
STOP = Mouse(0, [("stop",)])
LOOKS = ("wall", "here", "held", "north")


def parts_of(line):
    """What a line does or asks, and where it leads."""
    many = KINDS[line[0]].count("n")
    return line[:len(line) - many], line[len(line) - many:]


def lots_by_rounds(lines):
    """For each line the number of its lot: all lots are parted again and again, till none is parted any more."""
    lots = [0] * len(lines)
    while True:
        seen = [(parts_of(line)[0], lots[at], tuple(lots[to] for to in parts_of(line)[1])) for at, line in enumerate(lines)]
        numbers = {told: at for at, told in enumerate(dict.fromkeys(seen))}
        again = [numbers[told] for told in seen]
        if len(numbers) == len(set(lots)):
            return again
        lots = again


def least_by_rounds(lines):
    """The lines of the least mouse."""
    lots = lots_by_rounds(lines)
    order, queue = {lots[0]: 0}, [0]
    for at in queue:
        for to in parts_of(lines[at])[1]:
            if lots[to] not in order:
                order[lots[to]] = len(order)
                queue.append(to)
    return tuple((*parts_of(lines[at])[0], *(order[lots[to]] for to in parts_of(lines[at])[1])) for at in queue)


def done_by(lines, answers, most):
    """What a mouse does and asks, so many things at most, till there is no answer to its look any more."""
    told, at, answers = [], 0, list(answers)
    while len(told) < most:
        head, leads = parts_of(lines[at])
        told.append(head)
        if not leads or head[0] in LOOKS and not answers:
            break
        at = leads[answers.pop(0) == "no" if head[0] in LOOKS else 0]
    return told


def shows_unlike(one, other, answers):
    """Whether both make as many looks, and do unlike things behind the last answer."""
    most = (len(one) + len(other) + 2) * (len(answers) + 1)
    mine, its = done_by(one, answers, most), done_by(other, answers, most)
    for at, (head, against) in enumerate(zip(mine, its)):
        if head != against:
            return sum(told[0] in LOOKS for told in mine[:at]) == len(answers)
    return False


def first_row(one, other, most):
    """The first of the shortest rows of at most so many answers by which they do unlike things."""
    for many in range(most + 1):
        for answers in product(("yes", "no"), repeat=many):
            if shows_unlike(one, other, answers):
                return answers
    return None


def shuffled(lines, chance):
    """The same mouse with lines in another order, some lines twice, and some that are never come to."""
    places = [at for at in range(len(lines)) for _ in range(chance.choice((1, 1, 2)))]
    rest = places[1:]
    chance.shuffle(rest)
    places = [0, *(at for at in rest)]
    many = len(places) + 3
    where = {at: [k for k, told in enumerate(places) if told == at] for at in range(len(lines))}
    made = []
    for at in places:
        head, leads = parts_of(lines[at])
        made.append((*head, *(chance.choice(where[to]) for to in leads)))
    made += [some_line(chance, chance.choice(("go", "turn", "wall", "north")), 0, many) for _ in range(3)]
    return made


def small_mice(seed):
    """Two mice with as many stones that do the same, or nearly: one line of the other one may be another."""
    chance = random.Random(seed)
    stones = seed % 3
    kinds = ["north", "north", "wall", "turn", "stop"] if seed % 2 else None
    one = some_mouse(seed, stones, 2 + seed % 9, kinds).lines
    other = [list(line) for line in least_by_rounds(one)]
    if seed % 5:
        at = chance.randrange(len(other))
        kind = chance.choice([other[at][0], *(kind for kind in KINDS if stones or "s" not in KINDS[kind])])
        other[at] = list(some_line(chance, kind, stones, len(other)))
    return Mouse(stones, one), Mouse(stones, shuffled(other, chance) if seed % 2 else other)


class LeastTest(unittest.TestCase):
    def test_examples(self):
        self.assertEqual(
            [least_of(Mouse(0, [("go", 1), ("go", 0), ("stop",)])).lines, least_of(UNTIL) == UNTIL, least_of(TURNING).lines],
            [(("go", 0),), True, (("wall", 0, 1, 2), ("stop",), ("turn", 0))],
        )

    def test_interface(self):
        asked = {
            "least_of": ["mouse"], "Alike": [], "Unlike": ["answers"], "judged_mice": ["one", "other"],
            "shows_mice": ["one", "other", "value"],
        }
        for name, parameters in asked.items():
            told = getattr(leasts, name)
            self.assertEqual((told.__module__, list(inspect.signature(told).parameters)), ("fourstones.leasts", parameters))

    def test_lines_that_are_alike(self):
        for lines, told in (
            ([("stop",), ("stop",)], [("stop",)]),
            ([("go", 1), ("go", 2), ("go", 3), ("go", 1)], [("go", 0)]),
            ([("go", 1), ("turn", 2), ("go", 3), ("turn", 0)], [("go", 1), ("turn", 0)]),
            ([("go", 1), ("go", 2), ("go", 3), ("stop",)], [("go", 1), ("go", 2), ("go", 3), ("stop",)]),
            ([("north", 1, 2), ("stop",), ("stop",)], [("north", 1, 1), ("stop",)]),
            ([("north", 1, 0), ("north", 0, 1)], [("north", 0, 0)]),
            ([("wall", 0, 1, 2), ("wall", 0, 2, 0), ("wall", 1, 0, 1)], [("wall", 0, 1, 2), ("wall", 0, 2, 0), ("wall", 1, 0, 1)]),
            ([("say", 1, 1), ("say", 2, 2), ("say", 1, 1)], [("say", 1, 1), ("say", 2, 0)]),
            ([("here", 0, 1, 1, 2), ("here", 0, 1, 0, 2), ("here", 1, 1, 0, 2)], [("here", 0, 1, 0, 1), ("here", 1, 1, 0, 1)]),
            ([("lay", 0, 4, 1), ("lay", 0, 3, 2), ("lay", 0, 4, 1)], [("lay", 0, 4, 1), ("lay", 0, 3, 0)]),
            ([("held", 0, 1, 1), ("take", 0, 2), ("take", 1, 0)], [("held", 0, 1, 1), ("take", 0, 2), ("take", 1, 0)]),
        ):
            self.assertEqual(least_of(Mouse(2, lines)).lines, tuple(told))

    def test_lines_that_are_never_come_to(self):
        lines = [("go", 3), ("turn", 0), ("say", 1, 2), ("stop",), ("go", 1)]
        self.assertEqual(least_of(Mouse(0, lines)).lines, (("go", 1), ("stop",)))

    def test_order(self):
        # NEXT, or YES and then NO, from line to line in the order in which they are come to.
        lines = [("north", 3, 1), ("go", 4), ("stop",), ("wall", 1, 5, 2), ("say", 1, 0), ("turn", 1)]
        told = [("north", 1, 2), ("wall", 1, 3, 4), ("go", 5), ("turn", 2), ("stop",), ("say", 1, 0)]
        self.assertEqual(least_of(Mouse(0, lines)).lines, tuple(told))

    def test_least(self):
        lesser = 0
        for seed in range(500):
            mouse = some_mouse(seed, seed % 4, 1 + seed % 40, ["turn", "north", "stop", "go"] if seed % 3 else None)
            least = least_of(mouse=mouse)
            self.assertEqual((least.stones, least.lines), (mouse.stones, least_by_rounds(mouse.lines)))
            self.assertTrue(least_of(least) == least)
            lesser += 1 < len(least.lines) < len(mouse.lines)
            # Lines in another order, and lines that are alike, give the same.
            other = Mouse(mouse.stones, shuffled(mouse.lines, random.Random(seed)))
            self.assertTrue(least_of(other) == least)
        self.assertGreater(lesser, 200)

    def test_least_mice_do_the_same_on_floors(self):
        floor = Floor.read("#### #.## ##.# ####")
        for seed in range(100):
            mouse = some_mouse(seed, 3, 12)
            one, other = Trip(mouse, floor, (0, 0), seed % 4), Trip(least_of(mouse), floor, (0, 0), seed % 4)
            for _ in range(60):
                self.assertEqual(one.advance(), other.advance())
                told = [(trip.cell, trip.nose, trip.stones, trip.said, trip.word) for trip in (one, other)]
                self.assertEqual(told[0], told[1])

    def test_errors(self):
        for value in NO_MICE:
            self.assertEqual(told_error(least_of, value), ("BadMouse", "mouse"))


class JudgedMiceTest(unittest.TestCase):
    def test_examples(self):
        self.assertEqual(
            [judged_mice(UNTIL, TURNING) == Unlike(["no"]), bool(judged_mice(UNTIL, least_of(UNTIL))),
             judged_mice(Mouse(1, [("go", 0)]), Mouse(1, [("take", 0, 0)])).answers],
            [True, True, ()],
        )
        values = (Unlike(["no"]), Unlike(["yes"]), Unlike([]), Unlike(["no", "no"]), Alike())
        self.assertEqual([shows_mice(UNTIL, TURNING, value) for value in values], [True, False, False, False, False])
        self.assertEqual(told_error(judged_mice, UNTIL, Mouse(1, [("stop",)])), ("Misfit", "other"))

    def test_papers(self):
        self.assertEqual((Alike.__bases__, Unlike.__bases__), ((Paper,), (Denial,)))
        alike, unlike = Alike(), Unlike(answers=["yes"])
        self.assertEqual((alike.word, alike.parts, bool(alike)), ("alike", (), True))
        self.assertEqual((unlike.word, unlike.parts, unlike.answers, bool(unlike)), ("unlike", (("yes",),), ("yes",), False))
        self.assertTrue(alike == Alike() and unlike == Unlike(("yes",)))
        for other in (Unlike([]), Paper("alike"), Denial("unlike", ["yes"]), (), None):
            self.assertIs(alike == other or unlike == other, False)

    def test_mice_that_do_the_same(self):
        for seed in range(120):
            mouse = some_mouse(seed, seed % 3, 1 + seed % 25)
            for other in (mouse, least_of(mouse), Mouse(mouse.stones, shuffled(mouse.lines, random.Random(seed)))):
                told = judged_mice(other=other, one=mouse)
                self.assertTrue(told == Alike() and isinstance(told, Alike))
                self.assertIs(shows_mice(mouse, other, Alike()), True)
                self.assertIs(shows_mice(mouse, other, Unlike([])), False)

    def test_shortest_and_first_row(self):
        kinds = {}
        for seed in range(500):
            one, other = small_mice(seed)
            same = least_by_rounds(one.lines) == least_by_rounds(other.lines)
            for mouse, against in ((one, other), (other, one)):
                told = judged_mice(mouse, against)
                if same:
                    self.assertTrue(told == Alike())
                    kinds["same"] = 1 + kinds.get("same", 0)
                    continue
                self.assertTrue(isinstance(told, Unlike) and isinstance(told.answers, tuple))
                if len(told.answers) < 9:
                    self.assertEqual(told.answers, first_row(mouse.lines, against.lines, 8))
                    kinds[len(told.answers)] = 1 + kinds.get(len(told.answers), 0)
        self.assertGreater(kinds["same"], 100)
        self.assertTrue(all(kinds.get(many, 0) >= 4 for many in range(4)), kinds)

    def test_yes_ahead_of_no(self):
        one = Mouse(0, [("north", 1, 2), ("north", 3, 4), ("north", 5, 6), *[("stop",)] * 4])
        for wrong, told in (
            ((3, 4, 5, 6), ("yes", "yes")), ((4, 5, 6), ("yes", "no")), ((5, 6), ("no", "yes")), ((6,), ("no", "no")),
        ):
            lines = list(one.lines)
            for at in wrong:
                lines[at] = ("go", 0)
            self.assertEqual(judged_mice(one, Mouse(0, lines)).answers, told)

    def test_shorter_rows_ahead_of_those_by_yes(self):
        one = Mouse(0, [("north", 1, 3), ("north", 2, 2), ("stop",), ("stop",)])
        other = Mouse(0, [("north", 1, 3), ("north", 2, 2), ("go", 0), ("turn", 0)])
        self.assertEqual(judged_mice(one, other).answers, ("no",))

    def test_deeds_ahead_of_looks(self):
        one = Mouse(0, [("go", 1), ("turn", 2), ("north", 3, 0), ("say", 1, 4), ("stop",)])
        other = Mouse(0, [("go", 1), ("turn", 2), ("north", 3, 0), ("say", 1, 4), ("say", 1, 4)])
        self.assertEqual(judged_mice(one, other).answers, ("yes",))
        third = Mouse(0, [("go", 1), ("turn", 2), ("north", 3, 4), ("say", 1, 5), ("go", 2), ("stop",)])
        self.assertEqual(judged_mice(one, third).answers, ("no",))

    def test_the_empty_row(self):
        heads = [("go", 0), ("turn", 0), ("lay", 0, 1, 0), ("lay", 1, 1, 0), ("lay", 0, 2, 0), ("take", 0, 0), ("take", 1, 0),
                 ("say", 1, 0), ("say", 2, 0), ("wall", 0, 0, 0), ("wall", 1, 0, 0), ("here", 0, 1, 0, 0),
                 ("here", 1, 1, 0, 0), ("here", 0, 0, 0, 0), ("held", 0, 0, 0), ("held", 1, 0, 0), ("north", 0, 0), ("stop",)]
        for line in heads:
            for against in heads:
                told = judged_mice(Mouse(2, [line]), Mouse(2, [against]))
                self.assertTrue(told == (Alike() if line == against else Unlike(())))

    def test_deeds_for_ever(self):
        one = Mouse(0, [("go", 1), ("turn", 0)])
        other = Mouse(0, [("go", 1), ("turn", 2), ("go", 3), ("turn", 0)])
        self.assertTrue(judged_mice(one, other) == Alike())
        other = Mouse(0, [("go", 1), ("turn", 2), ("go", 3), ("go", 0)])
        self.assertTrue(judged_mice(one, other) == Unlike(()))
        for answers in ([], ["yes"], ["no", "yes"]):
            self.assertIs(shows_mice(one, Mouse(0, [*one.lines, ("stop",)]), Unlike(answers)), False)
            self.assertIs(shows_mice(one, other, Unlike(answers)), not answers)


class ShowsMiceTest(unittest.TestCase):
    def test_all_rows(self):
        right = 0
        for seed in range(300):
            one, other = small_mice(seed)
            same = judged_mice(one, other) == Alike()
            self.assertIs(shows_mice(one, other, Alike()), same)
            for many in range(5):
                for answers in product(("yes", "no"), repeat=many):
                    told = shows_unlike(one.lines, other.lines, answers)
                    self.assertIs(shows_mice(one, other, Unlike(list(answers))), told)
                    self.assertIs(shows_mice(value=Unlike(answers), other=one, one=other), told)
                    right += told
        self.assertGreater(right, 300)

    def test_longer_rows(self):
        for many in range(4):
            self.assertIs(shows_mice(UNTIL, Mouse(0, [("wall", 0, 1, 2), ("stop",), ("go", 3), ("wall", 0, 1, 4), ("turn", 0)]),
                                     Unlike(["no"] * many)), many == 2)
        lines = [("north", 0, 1), ("stop",)]
        for many in (0, 1, 7, 300):
            row = ["yes"] * many + ["no"]
            self.assertIs(shows_mice(Mouse(0, lines), Mouse(0, [lines[0], ("go", 0)]), Unlike(row)), True)
            for wrong in (row[:-1], row + ["no"], row + ["yes"], ["no"] + row):
                self.assertIs(shows_mice(Mouse(0, lines), Mouse(0, [lines[0], ("go", 0)]), Unlike(wrong)), False)

    def test_other_words_and_kinds(self):
        for answer in ("Yes", "No", "", "y", "n", "yes ", "true", b"no", None, True, False, 0, 1, ["no"], ("no",), {}, 1.0):
            for answers in ([answer], [answer, "no"], ["no", answer], (answer,)):
                self.assertIs(shows_mice(UNTIL, TURNING, Unlike(answers)), False)
        for answers in ("no", "yes", {"no": 1}, {"no"}, None, True, 1, ODD, [["no"]], "n", ""):
            self.assertIs(shows_mice(UNTIL, TURNING, Unlike(answers)), False)
        self.assertIs(shows_mice(UNTIL, TURNING, Unlike(("no",))), True)

    def test_other_values(self):
        class BelowAlike(Alike):
            """A class of its own, although it is below Alike."""

        class BelowUnlike(Unlike):
            """A class of its own, although it is below Unlike."""

        wrong = (namesake("Alike", Alike()), Alike, Unlike, Paper("alike"), Denial("alike"), BelowAlike(), "alike", 1)
        for value in (*ODD, *wrong):
            self.assertIs(shows_mice(UNTIL, UNTIL, value), False)
        wrong = (Paper("unlike", ["no"]), Denial("unlike", ["no"]), BelowUnlike(["no"]), ["no"], ("no",), "no")
        for value in (*ODD, namesake("Unlike", Unlike(["no"])), *wrong):
            self.assertIs(shows_mice(UNTIL, TURNING, value), False)


class ErrorsTest(unittest.TestCase):
    def test_in_their_order(self):
        calls = [judged_mice]
        for paper in (Alike(), Unlike([]), None, Unlike(7)):
            calls.append(lambda one, other, paper=paper: shows_mice(one, other, paper))
        for asked in calls:
            for value in NO_MICE:
                for other in (STOP, value, None):
                    self.assertEqual(told_error(asked, value, other), ("BadMouse", "one"))
                self.assertEqual(told_error(asked, STOP, value), ("BadMouse", "other"))
            for one in range(13):
                for other in range(13):
                    told = told_error(asked, Mouse(one, [("stop",)]), Mouse(other, [("stop",)]))
                    self.assertEqual(told, None if one == other else ("Misfit", "other"))
            self.assertEqual(told_error(asked, Mouse(1, [("go", 0)]), STOP), ("Misfit", "other"))


class StaysTest(unittest.TestCase):
    def test_what_was_passed_stays(self):
        answers = ["no"]
        paper = Unlike(answers)
        kept = deepcopy((UNTIL.lines, TURNING.lines, answers, paper.parts))
        least_of(TURNING)
        judged_mice(UNTIL, TURNING)
        shows_mice(UNTIL, TURNING, paper)
        self.assertEqual((UNTIL.lines, TURNING.lines, answers, paper.parts), kept)

    def test_great_mice_in_a_short_time(self):
        begin = time.monotonic()
        row = [("turn", at + 1) for at in range(5999)]
        self.assertEqual(len(least_of(Mouse(0, [*row, ("stop",)])).lines), 6000)
        self.assertEqual(least_of(Mouse(0, [*row, ("turn", 0)])).lines, (("turn", 0),))
        # Two of its lines are alike: they turn ahead of the look for a wall.
        self.assertEqual(len(least_of(long_mouse(6000)).lines), 5999)
        for many in (400, 6000):
            looks = [("north", (2 * at + 1) % many, (2 * at + 2) % many) for at in range(many - 1)]
            mouse = Mouse(0, [*looks, ("stop",)])
            self.assertEqual(least_of(mouse).lines, least_by_rounds(mouse.lines))
        for seed in range(20):
            mouse = some_mouse(seed, 4, 400)
            self.assertTrue(least_of(least_of(mouse)) == least_of(mouse))
        self.assertLess(time.monotonic() - begin, 20)

    def test_two_great_mice_in_a_short_time(self):
        begin = time.monotonic()
        one = Mouse(0, [*(("north", at + 1, at + 1) for at in range(198)), ("stop",)])
        other = Mouse(0, [*(("north", at + 1, at + 1) for at in range(199)), ("stop",)])
        self.assertEqual(judged_mice(one, other).answers, ("yes",) * 198)
        self.assertIs(shows_mice(one, other, Unlike(["no"] * 198)), True)
        # Rounds of 199 and of 200 lines: as many pairs of lines as there can be.
        rounds = [Mouse(0, [("north", (at + 1) % many, (at + 1) % many) for at in range(many)]) for many in (199, 200)]
        self.assertTrue(judged_mice(*rounds) == Alike())
        self.assertIs(shows_mice(*rounds, Alike()), True)
        self.assertIs(shows_mice(*rounds, Unlike(["yes", "no"] * 50000)), False)
        deeds = [Mouse(0, [("turn", (at + 1) % many) for at in range(many)]) for many in (199, 200)]
        self.assertTrue(judged_mice(*deeds) == Alike())
        last = Mouse(0, [*rounds[1].lines[:-1], ("north", 0, 1)])
        self.assertTrue(judged_mice(rounds[0], last) == Alike())
        ends = Mouse(0, [*(("turn", at + 1) for at in range(198)), ("north", 0, 0)])
        for value in (Unlike(["yes"] * 100000), Unlike(["no"] * 100000)):
            self.assertIs(shows_mice(ends, ends, value), False)
        self.assertLess(time.monotonic() - begin, 20)


if __name__ == "__main__":
    unittest.main()
