"""Floors on which a mouse fails."""

import inspect
import time
import unittest
from copy import deepcopy

from fourstones import traps
from fourstones.explorers import explorer_mouse
from fourstones.floors import Floor
from fourstones.judged import walks_whole
from fourstones.mice import Mouse
from fourstones.papers import Denial, Paper
from fourstones.traps import Free, Trap, floors_of, shows_trap, trap_of
from helpers import ODD, floors_up_to, namesake, told_error
from test_trips import NO_MICE
from walkers import NO_NUMBERS, some_mouse, states_of

SITTER = Mouse(0, [("stop",)])
PACER = Mouse(0, [("wall", 0, 1, 4), ("turn", 2), ("turn", 3), ("wall", 0, 5, 4), ("go", 0), ("stop",)])
# It goes to the end of a corridor, lays its stone there, goes to the other end, and back to where it began, marked too.
KEEPER = Mouse(2, [
    ("lay", 1, 4, 1), ("wall", 0, 3, 2), ("go", 1), ("turn", 4), ("turn", 5), ("wall", 0, 7, 6), ("go", 5), ("turn", 8),
    ("turn", 9), ("here", 1, 4, 11, 10), ("go", 9), ("take", 1, 12), ("stop",),
])
SPINNER = Mouse(0, [("turn", 0)])
EXPLORER = explorer_mouse()
NO_FIVE = (*NO_NUMBERS, 0, -1, 6, 10 ** 5000)
NO_MOST = (*NO_NUMBERS, 0, -1, 100001, 10 ** 5000)


def whole_within(mouse, floor, cell, side, most):
    """Whether a trip shows within so many steps that it walks whole, by another walker."""
    states = states_of(mouse, floor, cell, side, most)
    place, _, _, stones, _, _, word = states[-1][0]
    seen = {state[0] for state, _ in states}
    return (word, place, any(stones), seen) == ("stop", tuple(cell), False, set(floor.cells))


def trap_by_search(mouse, many, most):
    """The parts of the first trap, None if there is none."""
    floors = floors_up_to(many)
    for floor in sorted(floors, key=lambda floor: (len(floor.cells), str(floor))):
        for cell in sorted(floor.cells):
            for side in range(4):
                if not whole_within(mouse, floor, cell, side, most):
                    return str(floor), cell, side
    return None


class FloorsTest(unittest.TestCase):
    def test_by_another_growing(self):
        begin = time.monotonic()
        grown = floors_up_to(7)
        for many, told in enumerate((1, 2, 6, 19, 63, 216, 760), start=1):
            floors = floors_of(many)
            self.assertEqual((type(floors), len(floors), {type(floor) for floor in floors}), (tuple, told, {Floor}))
            texts = [str(floor) for floor in floors]
            self.assertEqual(texts, sorted(str(floor) for floor in grown if len(floor.cells) == many))
            self.assertEqual(len(set(texts)), told)
            self.assertTrue(floors_of(many=many) == floors)
        self.assertLess(time.monotonic() - begin, 10)

    def test_wrong_numbers(self):
        for many in (*NO_NUMBERS, 0, -1, 8, 10 ** 5000):
            self.assertEqual(told_error(floors_of, many), ("BadNumber", "many"))


class TrapsTest(unittest.TestCase):
    def test_examples(self):
        self.assertEqual([str(floor) for floor in floors_of(3)], ["# # #", "## #.", "## .#", "###", "#. ##", ".# ##"])
        self.assertEqual(
            [trap_of(SITTER, 1, 5) == Free(1), trap_of(SITTER, 3, 5).parts, bool(trap_of(SITTER, 3, 5))],
            [True, ("# #", (0, 0), 0), False],
        )
        self.assertEqual(
            [shows_trap(SITTER, 2, 5, Trap("##", [1, 0], 3)), shows_trap(SITTER, 2, 5, Trap("###", (1, 0), 3)),
             shows_trap(SITTER, 2, 5, Free(2)), shows_trap(SITTER, 1, 5, Free(1))],
            [True, False, False, True],
        )
        self.assertEqual([trap_of(PACER, 1, 50) == Free(1), trap_of(PACER, 5, 50).parts], [True, ("# #", (0, 0), 0)])
        self.assertEqual(told_error(trap_of, SITTER, 6, 5), ("BadNumber", "many"))

    def test_interface(self):
        asked = {"floors_of": ["many"], "Trap": ["floor", "cell", "side"], "Free": ["many"],
                 "trap_of": ["mouse", "many", "most"], "shows_trap": ["mouse", "many", "most", "value"]}
        for name, parameters in asked.items():
            told = getattr(traps, name)
            self.assertEqual((told.__module__, list(inspect.signature(told).parameters)), ("fourstones.traps", parameters))

    def test_papers(self):
        self.assertEqual((Trap.__bases__, Free.__bases__), ((Denial,), (Paper,)))
        trap, free = Trap("##", [0, 0], side=2), Free(many=3)
        self.assertEqual((trap.word, trap.parts, bool(trap)), ("trap", ("##", (0, 0), 2), False))
        self.assertEqual((trap.floor, trap.cell, trap.side), trap.parts)
        self.assertEqual((free.word, free.parts, free.many, bool(free)), ("free", (3,), 3, True))
        self.assertTrue(trap == Trap("##", (0, 0), 2) and free == Free(3))
        for other in (Trap("##", (0, 0), 1), Free(2), Denial("trap", "##", (0, 0), 2), Paper("free", 3), None, ("##", (0, 0), 2)):
            self.assertIs(trap == other, False)
            self.assertIs(free == other, False)
        for value in ODD:
            if not isinstance(value, (list, tuple)):
                self.assertIs(Trap(value, value, value).cell, value)
                self.assertIs(Free(value).many, value)

    def test_first_traps(self):
        mice = [SITTER, PACER, SPINNER, KEEPER, *(some_mouse(seed, seed % 3, 1 + seed % 9) for seed in range(60))]
        words = {}
        for mouse in mice:
            for many, most in ((1, 1), (3, 40), (4, 7)):
                told, got = trap_by_search(mouse, many, most), trap_of(mouse, many, most)
                self.assertTrue(got == (Free(many) if told is None else Trap(*told)))
                self.assertEqual((type(got), got.parts), (Free, (many,)) if told is None else (Trap, told))
                self.assertIs(shows_trap(mouse, many, most, got), True)
                words[got.word] = 1 + words.get(got.word, 0)
        self.assertGreater(min(words.values()), 8)
        self.assertTrue(trap_of(most=5, many=2, mouse=SITTER) == Trap("# #", (0, 0), 0))

    def test_mice_that_walk_some_floors(self):
        # Up and down a corridor is walked whole if the nose points along it, so to the east the first trap is a corner.
        told = trap_by_search(KEEPER, 3, 100)
        self.assertTrue(trap_of(KEEPER, 3, 100) == Trap(*told))
        self.assertTrue(walks_whole(KEEPER, Floor.read("###"), (1, 0), 1, 100))
        self.assertFalse(shows_trap(KEEPER, 3, 100, Trap("###", (1, 0), 1)))
        self.assertTrue(shows_trap(KEEPER, 3, 100, Trap("###", (1, 0), 0)))

    def test_just_enough_steps(self):
        floor = Floor.read("###")
        steps = next(most for most in range(1, 100) if whole_within(KEEPER, floor, (1, 0), 1, most))
        self.assertIs(shows_trap(KEEPER, 3, steps, Trap("###", (1, 0), 1)), False)
        self.assertIs(shows_trap(KEEPER, 3, steps - 1, Trap("###", (1, 0), 1)), True)
        self.assertTrue(trap_of(SITTER, 1, 1) == Free(1))
        late = Mouse(0, [("turn", 1), ("turn", 2), ("stop",)])
        self.assertTrue(trap_of(late, 1, 3) == Free(1))
        self.assertTrue(trap_of(late, 1, 2) == Trap("#", (0, 0), 0))
        self.assertEqual([shows_trap(late, 1, most, Free(1)) for most in (1, 2, 3, 100000)], [False, False, True, True])

    def test_the_explorer_is_free(self):
        begin = time.monotonic()
        for many in range(1, 6):
            self.assertTrue(trap_of(EXPLORER, many, 2000) == Free(many))
        self.assertIs(shows_trap(EXPLORER, 5, 2000, Free(5)), True)
        self.assertIs(shows_trap(EXPLORER, 4, 2000, Free(5)), False)
        most = max(steps_to_walk(EXPLORER, floor) for floor in floors_of(2))
        self.assertTrue(trap_of(EXPLORER, 2, most) == Free(2))
        self.assertEqual(trap_of(EXPLORER, 2, most - 1).word, "trap")
        self.assertLess(time.monotonic() - begin, 15)

    def test_sides(self):
        # It stops at once only if its nose points to the south.
        picky = Mouse(0, [("north", 3, 1), ("turn", 2), ("north", 4, 5), ("go", 3), ("go", 4), ("turn", 6), ("turn", 7),
                          ("stop",)])
        for side in range(4):
            self.assertIs(shows_trap(picky, 1, 9, Trap("#", (0, 0), side)), side in (0, 3))
        self.assertTrue(trap_of(picky, 1, 9) == Trap("#", (0, 0), 0))
        # It goes on for ever only if its nose points to the west at first.
        westward = Mouse(0, [("turn", 1), ("north", 1, 2), ("stop",)])
        self.assertTrue(trap_of(westward, 1, 9) == Trap("#", (0, 0), 3))

    def test_what_a_whole_walk_wants(self):
        # Where it ends, what is in its paws, how it ends, and what it saw.
        for lines, told in (
            ([("go", 1), ("stop",)], True), ([("go", 1), ("turn", 2), ("turn", 3), ("go", 4), ("stop",)], False),
            ([("go", 1), ("turn", 2), ("turn", 3), ("go", 4), ("lay", 0, 0, 5), ("stop",)], True),
            ([("go", 1), ("turn", 2), ("turn", 3), ("go", 4), ("go", 0)], True), ([("turn", 1), ("stop",)], True),
            ([("go", 1), ("turn", 2), ("turn", 3), ("go", 4), ("take", 0, 0)], True),
        ):
            self.assertIs(shows_trap(Mouse(1, lines), 2, 99, Trap("##", (0, 0), 1)), told, lines)


def steps_to_walk(mouse, floor):
    """The most steps that a mouse takes to walk a floor whole."""
    return max(len(states_of(mouse, floor, cell, side, 10 ** 5)) - 1 for cell in floor.cells for side in range(4))


class ShowsTest(unittest.TestCase):
    def test_each_place(self):
        mice = [SITTER, PACER, KEEPER, *(some_mouse(seed, 1 + seed % 2, 8) for seed in range(6))]
        for mouse in mice:
            for floor in floors_up_to(4):
                for cell in floor.cells:
                    for side in range(4):
                        told = not whole_within(mouse, floor, cell, side, 30)
                        for many in (3, 4, 5):
                            paper = Trap(str(floor), list(cell), side)
                            self.assertIs(shows_trap(mouse, many, 30, paper), told and len(floor.cells) <= many)

    def test_wrong_traps(self):
        right = ("##", (1, 0), 3)
        self.assertIs(shows_trap(SITTER, 5, 9, Trap(*right)), True)
        floors = ("###### ", "######", " ", "", "#", "# #.", "##.", ".##", ".## .##", "#.#", "## ", " ##", "##\n", "#x",
                  Floor.read("##"), ((0, 0), (1, 0)), ["##"], *(odd for odd in ODD if odd != "##"))
        for floor in floors:
            self.assertIs(shows_trap(SITTER, 5, 9, Trap(floor, (1, 0), 3)), False, floor)
        for cell in ((2, 0), (-1, 0), (0, 1), (True, 0), (1, False), (1, 0, 0), (1,), (1.0, 0), "10", 1, (10 ** 7, 0), *ODD):
            self.assertIs(shows_trap(SITTER, 5, 9, Trap("##", cell, 3)), False, cell)
        for side in (*NO_NUMBERS, -1, 4, 10 ** 5000):
            self.assertIs(shows_trap(SITTER, 5, 9, Trap("##", (1, 0), side)), False, side)
        self.assertIs(shows_trap(SITTER, 1, 9, Trap(*right)), False)
        self.assertIs(shows_trap(SITTER, 5, 9, Trap("######", (1, 0), 3)), False)
        self.assertIs(shows_trap(SITTER, 5, 9, Trap("#", (0, 0), 3)), False)

    def test_free(self):
        for many in range(1, 6):
            for told in (*range(7), True, None, "1", 1.0, (1,), [1], -1):
                self.assertIs(shows_trap(SITTER, many, 5, Free(told)), many == 1 and told == 1 and type(told) is int)
        self.assertIs(shows_trap(SPINNER, 1, 5, Free(1)), False)

    def test_other_values(self):
        trap, free = Trap("##", (0, 0), 0), Free(1)
        self.assertTrue(shows_trap(SITTER, 2, 5, trap) and shows_trap(SITTER, 1, 5, free))
        for value in (*ODD, Paper("free", 1), Denial("trap", "##", (0, 0), 0), namesake("Free", free), namesake("Trap", trap),
                      trap.parts, free.parts, Trap, Free):
            for many in (1, 2):
                self.assertIs(shows_trap(SITTER, many, 5, value), False)
        self.assertIs(shows_trap(SITTER, 2, 5, type("Trap2", (Trap,), {})("##", (0, 0), 0)), False)
        self.assertIs(shows_trap(SITTER, 1, 5, type("Free2", (Free,), {})(1)), False)
        self.assertIs(shows_trap(SITTER, 2, 5, value=trap), True)


class ErrorTest(unittest.TestCase):
    def test_wrong_values(self):
        calls = (trap_of, lambda mouse, many, most: shows_trap(mouse, many, most, Free(1)))
        for call in calls:
            for value in NO_MICE:
                self.assertEqual(told_error(call, value, None, None), ("BadMouse", "mouse"))
            for many in NO_FIVE:
                for most in (1, 0, None):
                    self.assertEqual(told_error(call, SITTER, many, most), ("BadNumber", "many"))
            for most in NO_MOST:
                self.assertEqual(told_error(call, SITTER, 5, most), ("BadNumber", "most"))
            self.assertIsNone(told_error(call, SITTER, 5, 100000))

    def test_what_is_passed_stays(self):
        mouse, paper = Mouse(1, [["lay", 0, 1, 1], ["stop"]]), Trap("##", [0, 0], 1)
        kept = deepcopy((mouse, paper))
        trap_of(mouse, 3, 9)
        shows_trap(mouse, 3, 9, paper)
        self.assertTrue((mouse, paper) == kept)


class GreatTest(unittest.TestCase):
    def test_in_a_short_time(self):
        begin = time.monotonic()
        # It waits for long, and walks the floors of one cell whole; the first of two cells is a trap.
        waits = 6000 - 1
        waiter = Mouse(0, [*(("turn", at + 1) for at in range(waits)), ("stop",)])
        self.assertTrue(trap_of(waiter, 5, 100000) == Trap("# #", (0, 0), 0))
        self.assertTrue(trap_of(SPINNER, 5, 100000) == Trap("#", (0, 0), 0))
        self.assertIs(shows_trap(SPINNER, 5, 100000, Free(5)), False)
        self.assertTrue(trap_of(EXPLORER, 5, 100000) == Free(5))
        self.assertLess(time.monotonic() - begin, 10)


if __name__ == "__main__":
    unittest.main()
