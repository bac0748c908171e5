"""Scripts led to tables."""

import inspect
import random
import time
import unittest
from math import lcm

from fourstones import tables
from fourstones.floors import Floor
from fourstones.leasts import least_of
from fourstones.mice import Mouse
from fourstones.played import played
from fourstones.scripts import Script
from fourstones.tables import mouse_of
from fourstones.trips import Trip
from helpers import some_floors, told_error
from scripters import QUARTERS, SIDE_WORDS, SPOT_WORDS, Ended, Player, some_script
from test_leasts import done_by, least_by_rounds
from test_played import NO_SCRIPTS

# So many askings without a look or a deed show that a script goes on for ever, if it has no more flags than here.
IDLE = 20000


class Teller(Player):
    """Plays a script whose looks are told by a row of answers; notes all looks and deeds, one by one."""

    def __init__(self, text, answers, most):
        super().__init__(text, Floor.read("#"), (0, 0), 0, None)
        self.answers, self.told, self.most, self.idle = list(answers), [], most, 0

    def tell(self):
        """What is looked for and done, so many things at most, till there is no answer any more."""
        try:
            self.do_block(self.items.index("mouse") + 1)
            self.note("stop")
        except Ended as end:
            if end.args[0] == "idle":
                self.told += [("north",)] * min(self.most - len(self.told), len(self.answers) + 1)
        return self.told

    def note(self, *head):
        self.told.append(head)
        self.idle = 0
        if len(self.told) == self.most:
            raise Ended("most")

    def step(self):
        self.idle += 1
        if self.idle > IDLE:
            raise Ended("idle")

    def do_deed(self, word, at):
        if word in QUARTERS:
            for _ in range(QUARTERS[word]):
                self.note("turn")
            return at
        return super().do_deed(word, at)

    def do_step(self, word, at):
        if word == "stop":
            self.note("stop")
            raise Ended("stop")
        if word == "go":
            self.note("go")
            return at
        number = int(self.items[at])
        if word in ("say", "take"):
            self.note(word, number)
            return at + 1
        self.note(word, number, SPOT_WORDS.index(self.items[at + 1]))
        return at + 2

    def look(self, word, at):
        behind = at + {"wall": 1, "here": 2, "held": 1, "north": 0}[word]
        told = [SPOT_WORDS.index(item) if item in SPOT_WORDS else int(item) for item in self.items[at:behind]]
        self.note(word, *told)
        if not self.answers:
            raise Ended("answers")
        return self.answers.pop(0) == "yes", behind


def table(deeds, stones=1, ahead=""):
    """The lines of the mouse of a script with these deeds."""
    return mouse_of(Script(" ".join(f"stones {stones} {ahead} mouse {{ {deeds} }}".split()))).lines


def chain(many):
    """A script of so many turns."""
    whole, rest = divmod(many, 100)
    parts = "part ten { " + "right " * 10 + "} part hundred { " + "do ten " * 10 + "}"
    return Script(f"stones 0 {parts} mouse {{ {'do hundred ' * whole}{'right ' * rest}}}")


class TablesTest(unittest.TestCase):
    def test_examples(self):
        self.assertEqual(
            mouse_of(Script("stones 0 mouse { while not wall ahead { go } }")).lines,
            (("wall", 0, 1, 2), ("stop",), ("go", 0)),
        )
        turner = Script(
            "stones 0 part a { right up n 5 } part b2 { do a set m 1 } mouse { while not ( n = 3 or m = 2 ) { do a } say 7 }"
        )
        self.assertTrue(mouse_of(turner) == Mouse(0, [("turn", 1), ("turn", 2), ("turn", 3), ("say", 7, 4), ("stop",)]))
        text = "stones 2 mouse { if ( held 1 and north ) { go } else { go } while n = 0 { up m 2 } }"
        self.assertEqual(
            mouse_of(Script(text)).lines, (("held", 1, 1, 2), ("north", 2, 2), ("go", 3), ("north", 3, 3)),
        )

    def test_interface(self):
        self.assertEqual(tables.mouse_of.__module__, "fourstones.tables")
        self.assertEqual(list(inspect.signature(mouse_of).parameters), ["script"])
        script = Script("stones 3 mouse { go }")
        self.assertEqual((type(mouse_of(script=script)), mouse_of(script).stones), (Mouse, 3))
        self.assertTrue(mouse_of(script) == mouse_of(Script("stones 3 mouse { go }")))
        self.assertEqual(script.text, "stones 3 mouse { go }")

    def test_no_script(self):
        for value in NO_SCRIPTS:
            self.assertEqual(told_error(mouse_of, value), ("BadScript", "script"))

    def test_looks_and_deeds_one_by_one(self):
        chance = random.Random(7)
        many = {}
        for seed in range(1200):
            text = some_script(seed)
            mouse = mouse_of(Script(text))
            many[len(mouse.lines)] = True
            self.assertEqual(mouse.lines, least_by_rounds(mouse.lines), text)
            self.assertEqual(mouse.stones, int(text.split()[1]))
            rows = [["yes"] * 20, ["no"] * 20, ["yes", "no"] * 10]
            rows += [chance.choices(("yes", "no"), k=chance.randrange(40)) for _ in range(5)]
            for answers in rows:
                self.assertEqual(done_by(mouse.lines, answers, 60), Teller(text, answers, 60).tell(), (text, answers))
        self.assertGreater(len(many), 20)

    def test_trips_end_as_the_script_played(self):
        floors = some_floors()
        words = {}
        for seed in range(1500):
            script, floor = Script(some_script(seed)), floors[seed % len(floors)]
            cell, side = floor.cells[seed % len(floor.cells)], seed % 4
            trip = Trip(mouse_of(script), floor, cell, side)
            trip.forward(600)
            words[trip.word] = 1 + words.get(trip.word, 0)
            if trip.word == "":
                # Each step of the trip is one of the script, but for askings for ever.
                self.assertEqual(told_error(played, script, floor, cell, side, 600), ("TooMany", "steps", 600))
                continue
            told = played(script, floor, cell, side, 100000)
            self.assertEqual((told.ending, told.said, told.cell), (trip.word, trip.said, trip.cell))
        self.assertEqual(set(words), {"", "stop", "bump", "fault"})
        self.assertGreater(min(words.values()), 80)

    def test_it_is_its_own_least_mouse(self):
        for seed in range(200):
            mouse = mouse_of(Script(some_script(seed)))
            self.assertTrue(least_of(mouse) == mouse)


class DeedsTest(unittest.TestCase):
    def test_few_deeds(self):
        self.assertEqual(table(""), (("stop",),))
        self.assertEqual(table("stop"), (("stop",),))
        self.assertEqual(table("go"), (("go", 1), ("stop",)))
        self.assertEqual(table("set a 5 up b 3"), (("stop",),))
        self.assertEqual(table("lay 0 behind take 0"), (("lay", 0, 2, 1), ("take", 0, 2), ("stop",)))
        for word, quarters in QUARTERS.items():
            turns = tuple(("turn", at + 1) for at in range(quarters))
            self.assertEqual(table(word), (*turns, ("stop",)))
        self.assertEqual(table("right left about"), (*(("turn", at + 1) for at in range(6)), ("stop",)))

    def test_looks(self):
        for at, word in enumerate(SIDE_WORDS):
            self.assertEqual(table(f"if wall {word} {{ go }}"), (("wall", at, 1, 2), ("go", 2), ("stop",)))
            self.assertEqual(table(f"if not wall {word} {{ go }}"), (("wall", at, 1, 2), ("stop",), ("go", 1)))
        for at, word in enumerate(SPOT_WORDS):
            self.assertEqual(table(f"while here 0 {word} {{ go }}"), (("here", 0, at, 1, 2), ("go", 0), ("stop",)))
        self.assertEqual(
            table("if ( held 0 or north ) { go }"), (("held", 0, 1, 2), ("go", 3), ("north", 1, 3), ("stop",)),
        )

    def test_both_ways_do_the_same(self):
        self.assertEqual(table("if north { go } else { go }"), (("north", 1, 1), ("go", 2), ("stop",)))
        self.assertEqual(table("if north { }"), (("north", 1, 1), ("stop",)))
        self.assertEqual(table("if north { go say 1 } else { go say 2 }"),
                         (("north", 1, 2), ("go", 3), ("go", 4), ("say", 1, 5), ("say", 2, 5), ("stop",)))
        # A flag alone is no look.
        self.assertEqual(table("if a = 0 { go } else { right }"), (("go", 1), ("stop",)))
        self.assertEqual(table("if a = 1 { go } else { right }"), (("turn", 1), ("stop",)))
        self.assertEqual(table("if ( a = 0 or north ) { go }"), (("go", 1), ("stop",)))
        self.assertEqual(table("if ( a = 0 and north ) { go }"), (("north", 1, 2), ("go", 2), ("stop",)))

    def test_what_comes_behind_a_stop(self):
        self.assertEqual(table("go stop say 1 right"), (("go", 1), ("stop",)))
        self.assertEqual(table("do a say 1", ahead="part a { if north { stop } right }"),
                         (("north", 1, 2), ("stop",), ("turn", 3), ("say", 1, 1)))
        self.assertEqual(table("while a = 0 { go stop }"), (("go", 1), ("stop",)))

    def test_parts_within_parts(self):
        ahead = "part a { right } part b { do a go do a } part c { do b do a do b }"
        turn_go = "turn go turn".split()
        told = [*turn_go, "turn", *turn_go]
        self.assertEqual(table("do c", ahead=ahead), (*((word, at + 1) for at, word in enumerate(told)), ("stop",)))
        # Each use of a part goes on where it was used.
        self.assertEqual(table("do a say 1 do a say 2", ahead="part a { if north { right } }"),
                         (("north", 1, 2), ("turn", 2), ("say", 1, 3), ("north", 4, 5), ("turn", 5), ("say", 2, 6), ("stop",)))

    def test_flags_that_count(self):
        for bound in (1, 2, 3, 7, 99):
            lines = table(f"while z = 0 {{ go up a {bound} if a = 0 {{ say 1 }} }}")
            self.assertEqual(lines, (*(("go", at + 1) for at in range(bound)), ("say", 1, 0)))
        # From 5 on, behind which 3 is no more, `up` leads to 0.
        self.assertEqual(len(table("set a 5 up a 3 while not a = 2 { go up a 3 }")), 3)
        self.assertEqual(table("set a 99 up a 99 if a = 0 { go }"), (("go", 1), ("stop",)))
        self.assertEqual(table("set a 98 up a 99 if a = 0 { go }"), (("go", 1), ("stop",)))
        self.assertEqual(table("set a 97 up a 99 if a = 98 { go }"), (("go", 1), ("stop",)))

    def test_nested_rounds(self):
        for one, other in ((2, 3), (4, 6), (5, 1), (9, 8)):
            lines = table(f"while not a = {one} {{ set b 0 while not b = {other} {{ go up b 99 }} right up a 99 }}")
            self.assertEqual([line[0] for line in lines], [*(["go"] * other + ["turn"]) * one, "stop"])
        for one, other in ((2, 3), (4, 6), (5, 5), (7, 9), (12, 8), (71, 73)):
            lines = table(f"while z = 0 {{ go up a {one} up b {other} if ( a = 0 and b = 0 ) {{ say 1 }} }}")
            self.assertEqual(lines, (*(("go", at + 1) for at in range(lcm(one, other))), ("say", 1, 0)))
        self.assertEqual(table("while z = 0 { go up a 71 up b 73 }"), (("go", 0),))

    def test_asking_for_ever(self):
        north = (("north", 0, 0),)
        for deeds in ("while a = 0 { }", "while z = 0 { up a 7 up b 5 }", "while not a = 3 { up a 3 }",
                      "while a = 0 { while b = 0 { } go }", "if a = 0 { while not ( b = 1 or c = 2 ) { set c 1 } }",
                      "do p go", "set a 1 while not a = 0 { do q }"):
            self.assertEqual(table(deeds, ahead="part q { up b 4 } part p { while a = 0 { do q } }"), north)
        self.assertEqual(table("go while a = 0 { }"), (("go", 1), ("north", 1, 1)))
        self.assertEqual(table("if held 0 { while a = 0 { } } else { while b = 0 { up c 9 } }"),
                         (("held", 0, 1, 1), ("north", 1, 1)))
        # Not for ever, but long.
        self.assertEqual(table("while not ( a = 0 and b = 0 ) { go } up a 97 up b 98 "
                               "while not ( a = 0 and b = 0 ) { up a 97 up b 98 } say 1"), (("say", 1, 1), ("stop",)))
        # A script that looks to the north for ever itself does the same.
        self.assertEqual(table("while z = 0 { if north { } }"), north)
        # Answers need not fit together.
        self.assertEqual(table("while ( north or not north ) { }"), (("north", 0, 1), ("north", 2, 0), ("stop",)))


class GreatTest(unittest.TestCase):
    def test_bounds(self):
        mouse = mouse_of(chain(5999))
        self.assertEqual(mouse.lines, (*(("turn", at + 1) for at in range(5999)), ("stop",)))
        self.assertEqual(told_error(mouse_of, chain(6000)), ("TooMany", "lines", 6000))
        self.assertEqual(told_error(mouse_of, chain(9000)), ("TooMany", "lines", 6000))
        text = "stones 0 mouse { while z = 0 { go up a 83 up b 89 if ( a = 0 and b = 0 ) { say 1 } } }"
        self.assertEqual(told_error(mouse_of, Script(text)), ("TooMany", "lines", 6000))
        # More than 6,000 lines that are mostly alike.
        self.assertEqual(len(mouse_of(Script(text.replace("say 1", "go"))).lines), 1)

    def test_thousands_of_lines(self):
        begin = time.monotonic()
        text = "stones 0 mouse { while z = 0 { if wall ahead { right } up a 67 up b 43 if ( a = 0 and b = 0 ) { go } } }"
        lines = mouse_of(Script(text)).lines
        self.assertEqual(len(lines), 2 * 67 * 43 + 1)
        self.assertEqual(done_by(lines, ["no"] * 6000, 6000), Teller(text, ["no"] * 6000, 6000).tell())
        self.assertLess(time.monotonic() - begin, 5)

    def test_places_with_flags_in_a_short_time(self):
        begin = time.monotonic()
        # 83 times 80 moments, and at each of them three places.
        text = "stones 0 mouse { while z = 0 { up a 83 up b 80 if ( a = 0 and b = 0 ) { go } } }"
        self.assertEqual(mouse_of(Script(text)).lines, (("go", 0),))
        parts = "part p { go go go go go go go go go go } part q { " + "do p " * 20 + "} part r { " + "do q " * 10 + "}"
        ends = Script(f"stones 0 {parts} mouse {{ while z = 0 {{ do r do r do r do r do r }} }}")
        self.assertEqual(mouse_of(ends).lines, (("go", 0),))
        flags = " ".join(f"set f{at} 1" for at in range(700))
        self.assertEqual(mouse_of(Script(f"stones 0 mouse {{ {flags} if f699 = 1 {{ go }} }}")).lines, (("go", 1), ("stop",)))
        self.assertLess(time.monotonic() - begin, 5)


if __name__ == "__main__":
    unittest.main()
