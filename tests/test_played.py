"""What the mouse of a script does."""

import inspect
import time
import unittest
from copy import deepcopy

from fourstones import played as module
from fourstones.floors import Floor
from fourstones.mice import Mouse
from fourstones.papers import Paper
from fourstones.played import Play, played
from fourstones.scripts import Script
from helpers import GREAT, ODD, SHIFTS, some_floors, told_error
from scripters import QUARTERS, SIDE_WORDS, SPOT_WORDS, Player, some_script
from test_trips import NO_CELLS, NO_FLOORS, NO_SIDES, OUTSIDE
from walkers import NO_NUMBERS

HALL, BAR, ROOM, CELL = Floor.read("### #.# ###"), Floor.read("###"), Floor.read("##"), Floor.read("#")
THERE = Script("stones 1 mouse { lay 0 middle while not wall ahead { go } about while not here 0 middle { go } take 0 }")
TURNER = Script(
    "stones 0 part a { right up n 5 } part b2 { do a set m 1 } mouse { while not ( n = 3 or m = 2 ) { do a } say 7 }"
)
STOP, SPIN = Script("stones 0 mouse { }"), Script("stones 0 mouse { while a = 0 { right } }")
NO_SCRIPTS = (*ODD, 0, STOP.text, Mouse(0, [("stop",)]), HALL, (0, "stop"))


def least_steps(script, floor, cell, side):
    """The fewest steps within which a script ends."""
    most = 1
    while told_error(played, script, floor, cell, side, most) == ("TooMany", "steps", most):
        most += 1
    return most


def play(deeds, floor=HALL, cell=(0, 0), side=0, stones=2, ahead="", most=1000):
    """The word, the deeds, and the steps of a mouse that does these deeds of a script."""
    script = Script(f"stones {stones} {ahead}mouse {{ {deeds} }}".replace("  ", " "))
    told = played(script, floor, cell, side, most)
    return told.ending, told.deeds, least_steps(script, floor, cell, side)


class PlayedTest(unittest.TestCase):
    def test_examples(self):
        told = played(THERE, Floor.read("###"), (0, 0), 1, 21)
        self.assertEqual(
            [told.ending, told.deeds, told.said, told.cell],
            ["stop", (("lay", 0, 4), ("go",), ("go",), ("turn",), ("turn",), ("go",), ("go",), ("take", 0)), (), (0, 0)],
        )
        self.assertEqual(
            [played(TURNER, CELL, (0, 0), 0, 50).deeds, played(TURNER, CELL, (0, 0), 2, 50).said],
            [(("turn",), ("turn",), ("turn",), ("say", 7)), (7,)],
        )
        texts = ("stones 0 mouse { go go }", "stones 1 mouse { left left go take 0 }",
                 "stones 2 part p { say 1 stop } mouse { do p go }")
        self.assertEqual(
            [played(Script(text), Floor.read("##"), (1, 0), 1, 9).parts for text in texts],
            [("bump", (), (), (1, 0)), ("fault", (("turn",),) * 6 + (("go",),), (), (0, 0)),
             ("stop", (("say", 1),), (1,), (1, 0))],
        )
        self.assertEqual(told_error(played, THERE, Floor.read("###"), (0, 0), 1, 20), ("TooMany", "steps", 20))

    def test_interface(self):
        asked = {"Play": ["ending", "deeds", "said", "cell"], "played": ["script", "floor", "cell", "side", "most"]}
        for name, parameters in asked.items():
            told = getattr(module, name)
            self.assertEqual((told.__module__, list(inspect.signature(told).parameters)), ("fourstones.played", parameters))

    def test_paper(self):
        self.assertEqual(Play.__bases__, (Paper,))
        paper = Play("stop", [["go"]], [], [0, 1])
        self.assertEqual((paper.word, paper.parts, bool(paper)), ("play", ("stop", (("go",),), (), (0, 1)), True))
        self.assertEqual((paper.ending, paper.deeds, paper.said, paper.cell), paper.parts)
        self.assertTrue(paper == Play(cell=(0, 1), said=(), deeds=(("go",),), ending="stop"))
        for other in (Play("stop", [["go"]], [], (0, 2)), Paper("play", *paper.parts), paper.parts, None):
            self.assertIs(paper == other, False)
        told = played(THERE, BAR, [0, 0], 1, 21)
        self.assertEqual((type(told), type(told.deeds), type(told.said), type(told.cell)), (Play, tuple, tuple, tuple))
        self.assertTrue(told == played(most=99, side=1, cell=(0, 0), floor=BAR, script=THERE))

    def test_played_as_by_another_player(self):
        floors = some_floors()
        words = {}
        for seed in range(1500):
            text, floor = some_script(seed), floors[seed % len(floors)]
            cell, side = floor.cells[seed % len(floor.cells)], seed % 4
            player = Player(text, floor, cell, side, 400)
            word = player.play()
            words[word] = 1 + words.get(word, 0)
            script = Script(text)
            if word is None:
                self.assertEqual(told_error(played, script, floor, cell, side, 400), ("TooMany", "steps", 400))
                continue
            said = tuple(deed[1] for deed in player.deeds if deed[0] == "say")
            for most in (player.steps, player.steps + 1, 100000):
                told = played(script, floor, cell, side, most)
                self.assertEqual(told.parts, (word, tuple(player.deeds), said, player.cell), text)
            if player.steps > 1:
                most = player.steps - 1
                self.assertEqual(told_error(played, script, floor, cell, side, most), ("TooMany", "steps", most), text)
        self.assertEqual(set(words), {None, "stop", "bump", "fault"})
        self.assertGreater(min(words.values()), 80)


class DeedsTest(unittest.TestCase):
    def test_no_deed(self):
        self.assertEqual(play(""), ("stop", (), 1))

    def test_go(self):
        self.assertEqual(play("go"), ("stop", (("go",),), 2))
        self.assertEqual(play("go", side=2), ("bump", (), 1))
        self.assertEqual(play("go go go", side=1), ("bump", (("go",), ("go",)), 3))
        self.assertEqual(played(Script("stones 0 mouse { go go go }"), HALL, (0, 0), 1, 9).cell, (2, 0))

    def test_turns(self):
        for word, quarters in QUARTERS.items():
            self.assertEqual(play(word), ("stop", (("turn",),) * quarters, 1 + quarters))
            self.assertEqual(play(f"{word} {word} go", CELL), ("bump", (("turn",),) * (2 * quarters), 1 + 2 * quarters))
            for side in range(4):
                right, up = SHIFTS[(side + quarters) % 4]
                script = Script(f"stones 0 mouse {{ {word} go }}")
                told = played(script, Floor.read("### ### ###"), (1, 1), side, 9)
                self.assertEqual(told.cell, (1 + right, 1 + up))

    def test_stones(self):
        for at, spot in enumerate(SPOT_WORDS):
            self.assertEqual(play(f"lay 1 {spot}"), ("stop", (("lay", 1, at),), 2))
            self.assertEqual(play(f"lay 1 {spot} right take 1"), ("stop", (("lay", 1, at), ("turn",), ("take", 1)), 4))
        self.assertEqual(play("lay 1 left lay 1 left"), ("fault", (("lay", 1, 3),), 2))
        self.assertEqual(play("take 0"), ("fault", (), 1))
        self.assertEqual(play("lay 0 middle go take 0"), ("fault", (("lay", 0, 4), ("go",)), 3))
        self.assertEqual(play("lay 0 ahead take 0 lay 0 ahead")[1:], ((("lay", 0, 0), ("take", 0), ("lay", 0, 0)), 4))
        # A stone keeps its side of the cell wherever the nose points later.
        for word, quarters in QUARTERS.items():
            spot = SIDE_WORDS[-quarters % 4]
            self.assertEqual(play(f"lay 0 ahead {word} if here 0 {spot} {{ say 1 }}")[1][-1], ("say", 1))

    def test_say(self):
        script = Script("stones 0 mouse { say 3 say 1000000000 right say 3 }")
        told = played(script, CELL, (0, 0), 0, 9)
        self.assertEqual((told.said, told.deeds[0], least_steps(script, CELL, (0, 0), 0)), ((3, 10 ** 9, 3), ("say", 3), 5))

    def test_stop(self):
        self.assertEqual(play("stop go go"), ("stop", (), 1))
        self.assertEqual(play("go while north { if north { right stop } } go"), ("stop", (("go",), ("turn",)), 6))
        parts = "part a { say 1 stop say 2 } part b { do a say 3 } "
        self.assertEqual(play("do b say 4", ahead=parts), ("stop", (("say", 1),), 2))

    def test_flags(self):
        self.assertEqual(play("if a = 0 { say 1 } if a = 1 { say 2 }")[1:], ((("say", 1),), 2))
        self.assertEqual(play("set a 99 if a = 99 { say 1 } if b = 99 { say 2 } if b = 0 { say 3 }")[1:],
                         ((("say", 1), ("say", 3)), 3))
        self.assertEqual(play("set a 5 set a 0 if a = 0 { say 1 }")[1], (("say", 1),))
        # Each row: what the flag is, the bound of up, what it is then.
        for now, bound, then in (
            (0, 1, 0), (0, 2, 1), (1, 2, 0), (0, 99, 1), (98, 99, 0), (97, 99, 98), (5, 3, 0), (3, 3, 0), (2, 3, 0),
            (1, 3, 2), (99, 99, 0), (99, 1, 0),
        ):
            deeds = f"set a {now} up a {bound} if a = {then} {{ say 1 }} else {{ say 2 }}"
            self.assertEqual(play(deeds), ("stop", (("say", 1),), 2))
        self.assertEqual(play("set a 96 up a 99 up a 99 if a = 98 { say 1 } up a 99 if a = 0 { say 2 }")[1:],
                         ((("say", 1), ("say", 2)), 3))

    def test_parts(self):
        parts = "part a { right up f 3 } part b { do a do a } part f { } "
        self.assertEqual(play("do a do b do f", ahead=parts), ("stop", (("turn",),) * 3, 4))
        self.assertEqual(play("while not f = 2 { do a } say 1", ahead=parts)[1:], ((("turn",), ("turn",), ("say", 1)), 7))
        # Behind a part that is begun within a while the mouse goes on within it.
        self.assertEqual(play("while not f = 0 { } set f 1 do b say 5", ahead=parts)[1:], ((("turn",),) * 2 + (("say", 5),), 5))

    def test_deep_parts(self):
        parts = "part p0 { right } " + "".join(f"part p{at} {{ do p{at - 1} }} " for at in range(1, 60))
        self.assertEqual(play("do p59 do p30", ahead=parts), ("stop", (("turn",),) * 2, 3))


class ConditionsTest(unittest.TestCase):
    def truths(self):
        """Conditions of each kind, whether they are so in the south west corner of HALL, and how many looks they ask."""
        yield from (("wall behind", True, 1), ("wall left", True, 1), ("wall ahead", False, 1), ("wall right", False, 1))
        yield from (("north", True, 1), ("held 0", False, 1), ("held 1", True, 1), ("a = 1", True, 0), ("a = 0", False, 0))
        yield from ((f"here 0 {spot}", spot == "right", 1) for spot in SPOT_WORDS)
        yield from ((f"here 1 {spot}", False, 1) for spot in SPOT_WORDS)

    def joint(self, depth):
        """These and conditions made of them."""
        if not depth:
            return list(self.truths())
        told = self.joint(depth - 1)
        made = [(f"not {one}", not so, looks) for one, so, looks in told]
        made.append((f"not not {told[0][0]}", told[0][1], told[0][2]))
        for at, (one, so, looks) in enumerate(told):
            for other, too, more in told[at % 4::5]:
                made.append((f"( {one} and {other} )", so and too, looks + more * so))
                made.append((f"( {one} or {other} )", so or too, looks + more * (not so)))
        return told + made[::1 + len(made) // 150]

    def test_if(self):
        ahead = "lay 0 right set a 1 "
        for condition, so, looks in self.joint(2):
            for text, said in (
                ("if {} {{ say 1 }}", 1 if so else None), ("if {} {{ }} else {{ say 2 }}", None if so else 2),
                ("if {} {{ say 1 }} else {{ say 2 }}", 1 if so else 2), ("if {} {{ }}", None),
            ):
                deeds = (("lay", 0, 1),) + ((("say", said),) if said else ())
                self.assertEqual(play(ahead + text.format(condition)), ("stop", deeds, 2 + looks + bool(said)), condition)

    def test_while(self):
        ahead = "lay 0 right set a 1 "
        for condition, so, looks in self.joint(1):
            told = play(ahead + f"while ( b = 0 and {condition} ) {{ say 1 set b 1 }}")
            self.assertEqual(told, ("stop", (("lay", 0, 1),) + (("say", 1),) * so, 3 + looks + 2 * so), condition)

    def test_while_asks_again(self):
        for cell, goes in (((0, 0), 2), ((1, 0), 1), ((2, 0), 0)):
            self.assertEqual(play("while not wall ahead { go }", cell=cell, side=1), ("stop", (("go",),) * goes, 3 + 3 * goes))
        self.assertEqual(play("while not a = 5 { up a 9 }"), ("stop", (), 7))
        self.assertEqual(play("while not a = 3 { while not b = 2 { up b 9 say 4 } set b 0 up a 9 }")[1:], ((("say", 4),) * 6, 20))
        self.assertEqual(play("while not north { right }", side=1), ("stop", (("turn",),) * 3, 12))

    def test_while_for_ever(self):
        for deeds in ("while a = 0 { }", "while not a = 1 { set b 1 }", "while ( north or not north ) { }"):
            script = Script(f"stones 0 mouse {{ {deeds} }}")
            for most in (1, 2, 50, 100000):
                self.assertEqual(told_error(played, script, CELL, (0, 0), 0, most), ("TooMany", "steps", most))

    def test_order_of_looks(self):
        # The second one is not asked where the first one settles it: the looks are told by the other player.
        for text, looks in (
            ("if ( north and wall ahead ) { }", ["north", "wall"]), ("if ( wall ahead and north ) { }", ["wall"]),
            ("if ( north or wall ahead ) { }", ["north"]), ("if ( wall ahead or north ) { }", ["wall", "north"]),
            ("if not ( not north and held 0 ) { }", ["north"]), ("if not not ( held 0 and north ) { }", ["held", "north"]),
            ("if ( ( wall ahead and held 0 ) or here 0 left ) { }", ["wall", "here"]),
            ("if ( ( wall ahead or held 0 ) and here 0 left ) { }", ["wall", "held", "here"]),
            ("if ( a = 1 and north ) { }", []), ("if ( a = 0 and north ) { }", ["north"]),
        ):
            player = Player(f"stones 1 mouse {{ {text} }}", HALL, (0, 0), 0, 99)
            self.assertEqual(player.play(), "stop")
            self.assertEqual([look[0] for look in player.looks], looks)
            self.assertEqual(play(text, stones=1), ("stop", (), 1 + len(looks)))


class StepsTest(unittest.TestCase):
    def test_just_enough_and_one_too_few(self):
        for deeds, steps in (
            ("", 1), ("stop", 1), ("go", 2), ("go go go", 3), ("right", 2), ("about", 3), ("left", 4), ("take 0", 1),
            ("lay 0 left", 2), ("lay 0 left take 0", 3), ("say 1", 2), ("set a 1 up a 3", 1), ("if a = 0 { }", 1),
            ("if north { }", 2), ("while a = 1 { }", 2), ("while not north { }", 3), ("if ( north and held 0 ) { go }", 4),
        ):
            script = Script(f"stones 1 mouse {{ {deeds} }}".replace("  ", " "))
            # HALL is begun in a corner, so that three goes to the north are a bump.
            self.assertEqual(least_steps(script, HALL, (0, 0), 0), steps, deeds)
            for most in range(1, steps):
                self.assertEqual(told_error(played, script, HALL, (0, 0), 0, most), ("TooMany", "steps", most))

    def test_cell_of_the_end(self):
        script = Script("stones 0 mouse { go right go go say 9 }")
        told = played(script, HALL, (0, 1), 0, 9)
        self.assertEqual((told.ending, told.cell, told.said), ("stop", (2, 2), (9,)))
        told = played(script, HALL, (0, 0), 0, 9)
        self.assertEqual((told.ending, told.cell, told.said), ("bump", (0, 1), ()))


class ErrorsTest(unittest.TestCase):
    def test_in_their_order(self):
        for most in (1, 0, None):
            for value in NO_SCRIPTS:
                for rest in ((HALL, (0, 0), 0), (None, None, None), (HALL, (1, 1), 9)):
                    self.assertEqual(told_error(played, value, *rest, most), ("BadScript", "script"))
            for value in (*NO_FLOORS, STOP):
                for rest in (((0, 0), 0), (None, None), ((1, 1), 9)):
                    self.assertEqual(told_error(played, STOP, value, *rest, most), ("BadFloor", "floor"))
            for value in NO_CELLS:
                for side in (0, 9, None):
                    self.assertEqual(told_error(played, STOP, HALL, value, side, most), ("BadCell", "cell"))
            for value in NO_SIDES:
                for cell in ((0, 0), (1, 1)):
                    self.assertEqual(told_error(played, STOP, HALL, cell, value, most), ("BadNumber", "side"))

    def test_most_ahead_of_the_cell(self):
        for most in (*NO_NUMBERS, 0, -1, 100001, 10 ** 5000):
            for cell in ((0, 0), (1, 1)):
                self.assertEqual(told_error(played, SPIN, HALL, cell, 0, most), ("BadNumber", "most"))
        for cell in OUTSIDE:
            for script in (STOP, SPIN):
                self.assertEqual(told_error(played, script, HALL, cell, 0, 1), ("Misfit", "cell"))
        self.assertEqual(told_error(played, SPIN, HALL, (0, 0), 0, 100000), ("TooMany", "steps", 100000))


class StaysTest(unittest.TestCase):
    def test_what_was_passed_stays(self):
        cell = [0, 0]
        kept = deepcopy((TURNER.text, TURNER.stones, TURNER.parts, TURNER.flags, CELL.cells, cell))
        one = played(TURNER, CELL, cell, 0, 50)
        self.assertTrue(one == played(TURNER, CELL, cell, 0, 50))
        self.assertEqual((TURNER.text, TURNER.stones, TURNER.parts, TURNER.flags, CELL.cells, cell), kept)

    def test_great_scripts_in_a_short_time(self):
        begin = time.monotonic()
        inner = " ".join(["if not wall ahead { go } else { right }"] * 270)
        walker = Script(f"stones 12 mouse {{ lay 0 left while a = 0 {{ {inner} say 5 }} }}")
        self.assertLessEqual(len(walker.text.split(" ")), 3000)
        for cells in GREAT.values():
            floor = Floor(cells)
            told = told_error(played, walker, floor, floor.cells[-1], 1, 100000)
            self.assertEqual(told, ("TooMany", "steps", 100000))
        ending = Script("stones 0 mouse { while not ( a = 98 and b = 98 ) { left up a 99 if a = 0 { up b 99 } } }")
        self.assertEqual(len(played(ending, CELL, (0, 0), 0, 100000).deeds), 3 * (99 * 99 - 1))
        parts = "part p0 { } " + "".join(f"part p{at} {{ do p{at - 1} do p{at - 1} }} " for at in range(1, 13))
        silent = Script(f"stones 0 {parts}mouse {{ while not a = 20 {{ do p12 up a 99 }} }}")
        self.assertEqual(played(silent, CELL, (0, 0), 0, 22).deeds, ())
        self.assertLess(time.monotonic() - begin, 20)


if __name__ == "__main__":
    unittest.main()
