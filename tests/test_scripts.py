"""Scripts, and where texts are none."""

import inspect
import random
import time
import unittest

from fourstones import scripts
from fourstones.mice import Mouse
from fourstones.scripts import Script
from helpers import ODD, told_error
from scripters import BEHIND, QUARTERS, SIDE_WORDS, SPOT_WORDS, WORDS, fault_in, some_script

LETTERS = "abcdefghijklmnopqrstuvwxyz"
# Deeds and conditions of each kind; the stones are fewer than 3.
DEEDS = (
    "go", "right", "left", "about", "lay 0 middle", "lay 2 ahead", "take 1", "say 0", "say 1000000000", "stop",
    "set a 0", "set z9 99", "up a 1", "up b 99", "do p", "if north { go }", "if north { }", "while north { go }",
    "if north { go } else { stop }", "if north { } else { }", "while not north { }",
)
CONDITIONS = (
    *(f"wall {side}" for side in SIDE_WORDS), *(f"here 1 {spot}" for spot in SPOT_WORDS), "held 2", "north", "a = 0",
    "p = 99", "not north", "not not a = 1", "( north and held 0 )", "( a = 1 or wall left )",
    "( not ( north or held 1 ) and not not ( b = 3 and c = 4 ) )",
)


def told_item(text):
    """The index that BadText tells for a text, None for a script."""
    told = told_error(Script, text)
    assert told is None or told[:2] == ("BadText", 0), told
    return None if told is None else told[2]


def with_deeds(deeds, stones=3, ahead="part p { } "):
    """A script whose mouse does these deeds."""
    return f"stones {stones} {ahead}mouse {{ {deeds}{' ' if deeds else ''}}}"


class ScriptTest(unittest.TestCase):
    def test_examples(self):
        text = (
            "stones 1 mouse { lay 0 middle while not wall ahead { go } about while not here 0 middle { go } take 0 }"
        )
        there = Script(text)
        self.assertEqual([there.stones, there.parts, there.flags, there == Script(there.text)], [1, (), (), True])
        turner = Script(
            "stones 0 part a { right up n 5 } part b2 { do a set m 1 } "
            "mouse { while not ( n = 3 or m = 2 ) { do a } say 7 }"
        )
        self.assertEqual([turner.parts, turner.flags, str(turner) == turner.text], [("a", "b2"), ("n", "m"), True])
        for text, item in (
            ("stones 1 mouse { lay 1 middle }", 5), ("stones 0 part a { go } part a { } mouse { }", 8),
            ("stones 0 mouse { do a }", 5), ("stones 0 mouse { if wall middle { go } }", 6),
            ("stones 0 mouse { set go 1 }", 5), ("stones 0 mouse { go", 5),
        ):
            self.assertEqual(told_error(Script, text), ("BadText", 0, item))

    def test_interface(self):
        for name in ("__init__", "__eq__", "__str__"):
            self.assertIn(name, vars(Script))
        self.assertEqual(scripts.Script.__module__, "fourstones.scripts")
        self.assertEqual(list(inspect.signature(Script).parameters), ["text"])

    def test_kept(self):
        for seed in range(300):
            text = some_script(seed)
            items = text.split(" ")
            for script in (Script(text), Script(text=text)):
                self.assertEqual((script.text, str(script), script.stones), (text, text, int(items[1])))
                names = [items[at + 1] for at, item in enumerate(items) if item == "part"]
                self.assertEqual(script.parts, tuple(names))
                flags = []
                for at, item in enumerate(items):
                    flag = items[at + 1] if item in ("set", "up") else items[at - 1] if item == "=" else None
                    if flag and flag not in flags:
                        flags.append(flag)
                self.assertEqual(script.flags, tuple(flags))
                self.assertEqual((type(script.parts), type(script.flags)), (tuple, tuple))

    def test_stones(self):
        for stones in range(13):
            self.assertEqual(Script(f"stones {stones} mouse {{ }}").stones, stones)

    def test_parts_and_flags_in_order(self):
        script = Script(
            "stones 0 part z { if b = 1 { up a 2 } } part a { set z 3 } part m { do z do a } "
            "mouse { while ( c = 1 and a = 2 ) { } do m up d9 4 set b 5 }"
        )
        self.assertEqual((script.parts, script.flags), (("z", "a", "m"), ("b", "a", "z", "c", "d9")))

    def test_equal(self):
        one = Script("stones 0 mouse { go }")
        self.assertTrue(one == Script("stones 0 mouse { go }"))
        self.assertFalse(one != Script("stones 0 mouse { go }"))
        for other in (
            Script("stones 0 mouse { go stop }"), Script("stones 1 mouse { go }"), Script("stones 0 part a { } mouse { go }"),
            one.text, None, Mouse(0, [("go", 1), ("stop",)]), Script, 0,
        ):
            self.assertIs(one == other, False)
            self.assertIs(one != other, True)

    def test_each_deed_and_each_condition(self):
        self.assertIsNone(told_item(with_deeds("")))
        for deed in DEEDS:
            self.assertIsNone(told_item(with_deeds(deed)), deed)
            for condition in CONDITIONS:
                for text in (
                    f"if {condition} {{ {deed} }}", f"while {condition} {{ {deed} {deed} }}",
                    f"if {condition} {{ }} else {{ {deed} }}",
                    f"{deed} if not {condition} {{ while ( {condition} or {condition} ) {{ {deed} }} }} {deed}",
                ):
                    self.assertIsNone(told_item(with_deeds(text)), text)
                    inside = f"part p {{ }} part q {{ {text} }} "
                    self.assertIsNone(told_item(with_deeds("do q", ahead=inside)), text)

    def test_a_part_and_a_flag_with_one_name(self):
        script = Script("stones 0 part a { up a 3 } mouse { do a if a = 1 { do a } }")
        self.assertEqual((script.parts, script.flags), (("a",), ("a",)))


class NumbersTest(unittest.TestCase):
    def test_bounds(self):
        rows = (
            ("stones 12 mouse { }", 1, 0, 12), ("stones 3 mouse { lay 2 middle }", 5, 0, 2),
            ("stones 12 mouse { take 11 }", 5, 0, 11), ("stones 1 mouse { if here 0 left { } }", 6, 0, 0),
            ("stones 5 mouse { while held 4 { } }", 6, 0, 4), ("stones 0 mouse { say 1000000000 }", 5, 0, 10 ** 9),
            ("stones 0 mouse { set a 99 }", 6, 0, 99), ("stones 0 mouse { up a 99 }", 6, 1, 99),
            ("stones 0 mouse { if a = 99 { } }", 7, 0, 99), ("stones 0 mouse { if not ( a = 99 or north ) { } }", 9, 0, 99),
        )
        for text, at, least, most in rows:
            items = text.split(" ")
            self.assertEqual(items[at], str(most))
            for number in (least, most):
                items[at] = str(number)
                self.assertIsNone(told_item(" ".join(items)))
            wrong = [str(least - 1), str(most + 1), f"+{most}", f"0{most}", f"00{least}", "-0", "", "x", "1_0", "1.0",
                     "1" * 140, "1" * 141, "9" * 6000, f"{most}\n", "\u0661", "\u00b2", "{", "north", f" {most}"]
            for item in wrong:
                items[at] = item
                self.assertEqual(told_item(" ".join(items)), at, item)

    def test_no_stones(self):
        for text, at in (
            ("lay 0 middle", 5), ("take 0", 5), ("if here 0 middle { }", 6), ("while held 0 { }", 6),
        ):
            self.assertEqual(told_item(f"stones 0 mouse {{ {text} }}"), at)
            self.assertIsNone(told_item(f"stones 1 mouse {{ {text} }}"))


class NamesTest(unittest.TestCase):
    def places(self, name):
        """Texts with a name at each place that takes one, and the place."""
        yield f"stones 0 part {name} {{ }} mouse {{ }}", 3
        yield f"stones 0 mouse {{ set {name} 1 }}", 5
        yield f"stones 0 mouse {{ up {name} 1 }}", 5
        yield f"stones 0 mouse {{ if {name} = 1 {{ }} }}", 5
        yield f"stones 0 mouse {{ while ( north and {name} = 1 ) {{ }} }}", 8

    def test_names(self):
        names = [*LETTERS, "a0", "z999", "a" * 12, "abcdefghijkl", "a12345678901", "turn", "is", "back", "ask", "stone",
                 "walls", "gone", "elseif", "true", "none", "word"]
        for name in names:
            for text, _ in self.places(name):
                self.assertIsNone(told_item(text), text)
            self.assertIsNone(told_item(f"stones 0 part {name} {{ }} mouse {{ do {name} }}"))

    def test_no_names(self):
        wrong = [*"0123456789", "0a", "a" * 13, "abcdefghijklm", "A", "aB", "a_b", "_", "a-", "a.b", "\u00e4", "a\u00e4",
                 "a\u0661", "a\n", "", "{", "}", "=", "-1", "a" * 6000, *(word for word in WORDS)]
        for name in wrong:
            for text, at in self.places(name):
                # Where a flag begins a condition, another condition may stand, too.
                asks = " = " in text and name in ("not", "north", "wall", "here", "held")
                self.assertEqual(told_item(text), at + 1 if asks else at, text)
            self.assertEqual(told_item(f"stones 0 part a {{ }} mouse {{ do {name} }}"), 9)

    def test_parts_in_their_place(self):
        for text, at in (
            ("stones 0 part a { do a } mouse { }", 6), ("stones 0 part a { do b } part b { } mouse { }", 6),
            ("stones 0 part a { } part b { do a do c } part c { } mouse { }", 12),
            ("stones 0 part a { } mouse { do b }", 9), ("stones 0 part a { } part b { } part a { } mouse { }", 11),
            ("stones 0 mouse { set a 1 do a }", 8), ("stones 0 part a { } mouse { } part b { }", 9),
            ("stones 0 mouse { part a { } }", 4), ("stones 0 part a { part b { } } mouse { }", 5),
            ("stones 0 part a { mouse { } }", 5), ("stones 0 part a { }", 6), ("stones 0 part", 3), ("stones 0 part a go", 4),
        ):
            self.assertEqual(told_item(text), at, text)
        self.assertIsNone(told_item("stones 0 part a { } part b { do a do a } part c { do b do a } mouse { do c do a }"))


class BoundsTest(unittest.TestCase):
    def test_parts(self):
        parts = " ".join(f"part p{at} {{ }}" for at in range(60))
        script = Script(f"stones 0 {parts} mouse {{ do p0 do p59 }}")
        self.assertEqual(script.parts, tuple(f"p{at}" for at in range(60)))
        for more in ("part p60 { } mouse { }", "part", "part p0 { } mouse { }", "part x"):
            self.assertEqual(told_item(f"stones 0 {parts} {more}"), 242)
        self.assertEqual(told_item(f"stones 0 {parts}"), 242)

    def test_items(self):
        for deed in ("go", "right", "about"):
            text = f"stones 0 mouse {{{(' ' + deed) * 2995} }}"
            self.assertEqual(len(text.split(" ")), 3000)
            self.assertIsNone(told_item(text))
            for more in (" go", " ", " }", " x x x", " mouse { }"):
                self.assertEqual(told_item(text + more), 3000)
            for many in (2996, 2997, 5000):
                self.assertEqual(told_item(f"stones 0 mouse {{{(' ' + deed) * many} }}"), 3000)
            self.assertEqual(told_item(f"stones 0 mouse {{{(' ' + deed) * 2996}"), 3000)
            self.assertEqual(told_item(f"stones 0 mouse {{{(' ' + deed) * 2995}"), 2999)
        # An item that cannot stand ahead of the 3,001st one comes first.
        self.assertEqual(told_item("stones 0 mouse {" + " go" * 2000 + " x" * 2000), 2004)

    def test_nots(self):
        for word in ("if", "while"):
            for condition in ("north", "a = 1", "( north and not wall left )"):
                for many in (1, 2, 39, 40):
                    self.assertIsNone(told_item(with_deeds(f"{word} {'not ' * many}{condition} {{ }}", ahead="")))
                for many in (41, 42, 100):
                    self.assertEqual(told_item(with_deeds(f"{word} {'not ' * many}{condition} {{ }}", ahead="")), 45)
        row = "not " * 40
        self.assertIsNone(told_item(with_deeds(f"if {row}( {row}north and {row}( {row}north or north ) ) {{ }}")))
        self.assertEqual(told_item(with_deeds(f"if {row}( north and {row}not north ) {{ }}", ahead="")), 88)

    def test_open_together(self):
        for many in (1, 18, 19):
            self.assertIsNone(told_item(with_deeds("if north { " * many + "} " * many + "go", ahead="")))
            self.assertIsNone(told_item(with_deeds(f"if {'( ' * many}north{' and north )' * many} {{ }}", ahead="")))
        self.assertEqual(told_item(with_deeds("if north { " * 20 + "} " * 20, ahead="")), 4 + 3 * 19 + 2)
        self.assertEqual(told_item(with_deeds(f"if {'( ' * 20}north{' and north )' * 20} {{ }}", ahead="")), 5 + 19)
        blocks = "while north { " * 10
        for many, told in ((9, None), (10, 34 + 1 + 9)):
            inner = f"if {'( ' * many}north{' or north )' * many} {{ }}"
            self.assertEqual(told_item(with_deeds(blocks + inner + " }" * 10, ahead="")), told)
        # Those that are closed count no more.
        self.assertIsNone(told_item(with_deeds("if ( north and north ) { } else { } " * 100, ahead="")[:-2] + "}"))
        # They do not make room for more, either.
        for closed in ("if north { } ", "if ( north and ( north or north ) ) { } "):
            ahead = len(with_deeds(closed * 9, ahead="").split(" ")) - 2
            self.assertIsNone(told_item(with_deeds(closed * 9 + "if north { " * 19 + "} " * 19 + "go", ahead="")))
            told = told_item(with_deeds(closed * 9 + "if north { " * 20 + "} " * 20 + "go", ahead=""))
            self.assertEqual(told, ahead + 3 * 19 + 2)
        deep = "if north { " * 18 + "if ( a = 1 or b = 1 ) { go }" + " }" * 18
        self.assertIsNone(told_item(with_deeds(deep, ahead="")))


class TextTest(unittest.TestCase):
    def test_no_string(self):
        values = (*(odd for odd in ODD if not isinstance(odd, str)), 0, ["stones", "0", "mouse", "{", "}"])
        for value in (*values, Script("stones 0 mouse { }")):
            self.assertEqual(told_item(value), 0)
        for text in ("", " ", "x", "Stones 0 mouse { }", " stones 0 mouse { }", "\n", "mouse { }", "stones\n"):
            self.assertEqual(told_item(text), 0)

    def test_cut_off_at_each_item(self):
        for seed in range(60):
            items = some_script(seed).split(" ")
            for many in range(1, len(items)):
                self.assertEqual(told_item(" ".join(items[:many])), many)

    def test_empty_items(self):
        items = "stones 1 part a { lay 0 left } mouse { if ( north or a = 1 ) { do a } else { go } }".split(" ")
        self.assertIsNone(told_item(" ".join(items)))
        for at in range(len(items) + 1):
            self.assertEqual(told_item(" ".join([*items[:at], "", *items[at:]])), at)

    def test_behind_the_end(self):
        for more in ("go", "}", "", "mouse { }", "part a { }", "x", "else { }", "stones 0 mouse { }"):
            self.assertEqual(told_item("stones 0 mouse { go } " + more), 6)

    def test_each_word_where_it_cannot_stand(self):
        deeds = (*BEHIND, "}")
        asked = ("wall", "here", "held", "north", "not", "(")
        for item in (*WORDS, "{", "}", "(", ")", "=", "a", "0", "", "turn"):
            name = item in ("a", "turn")
            for text, wanted in (
                ("", ("stones",)), ("stones", ("0",)), ("stones 3", ("part", "mouse")), ("stones 3 mouse", ("{",)),
                ("stones 3 mouse {", deeds), ("stones 3 mouse { go", deeds), ("stones 3 mouse { if", (*asked, "a", "turn")),
                ("stones 3 mouse { if north", ("{",)), ("stones 3 mouse { if north { }", (*deeds, "else")),
                ("stones 3 mouse { while north { }", deeds), ("stones 3 mouse { if north { } else", ("{",)),
                ("stones 3 mouse { if north { } else { }", deeds), ("stones 3 mouse { if wall", SIDE_WORDS),
                ("stones 3 mouse { if here 0", SPOT_WORDS), ("stones 3 mouse { lay 0", SPOT_WORDS),
                ("stones 3 mouse { if ( north", ("and", "or")), ("stones 3 mouse { if ( north and north", (")",)),
                ("stones 3 mouse { if ( north or", (*asked, "a", "turn")), ("stones 3 mouse { while a", ("=",)),
                ("stones 3 mouse { if not", (*asked, "a", "turn")), ("stones 3 part", ("a", "turn")),
                ("stones 3 part a", ("{",)), ("stones 3 part a { }", ("part", "mouse")),
            ):
                ahead = text.split(" ") if text else []
                told = told_item(" ".join([*ahead, item]))
                # An item that can stand is missed behind it, but for the one that makes the script whole.
                stands = item in wanted or name and "a" in wanted
                self.assertEqual(told, None if item == "}" and stands else len(ahead) + stands, (text, item))
        self.assertEqual(set(deeds) - {"}"}, set(QUARTERS) | {
            "go", "lay", "take", "say", "stop", "set", "up", "do", "if", "while"})

    def test_items_exchanged_left_out_put_in_doubled(self):
        chance = random.Random(7)
        pool = [*WORDS, "{", "}", "(", ")", "=", "0", "1", "12", "13", "99", "100", "a", "p2", "b", "", "x" * 12, "x" * 13,
                "A", "01", "+1", "-1", "1000000000", "1000000001", "END", "DEEDS"]
        faults = 0
        for seed in range(6000):
            items = some_script(seed % 1500).split(" ")
            at = chance.randrange(len(items))
            put = [[], [chance.choice(pool)], [chance.choice(pool), items[at]], [items[at], items[at]]][seed % 4]
            text = " ".join([*items[:at], *put, *items[at + 1:]])
            told = fault_in(text)
            self.assertEqual(told_item(text), told, text)
            faults += told is not None
        self.assertGreater(faults, 3000)

    def test_great_scripts_in_a_short_time(self):
        begin = time.monotonic()
        for deed in ("go", "lay 0 left", "if not ( north and a = 1 ) { go } else { left }", "set a 1"):
            many = 2990 // len(deed.split(" "))
            for _ in range(5):
                Script(with_deeds(" ".join([deed] * many), ahead=""))
        flags = " ".join(f"set f{at} 1" for at in range(998))
        self.assertEqual(len(Script(f"stones 0 mouse {{ {flags} }}").flags), 998)
        self.assertLess(time.monotonic() - begin, 10)


if __name__ == "__main__":
    unittest.main()
