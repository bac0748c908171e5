"""Mice and their texts."""

import inspect
import time
import unittest
from copy import deepcopy

from fourstones import mice
from fourstones.mice import Mouse
from helpers import ODD, told_error
from walkers import KINDS, NO_NUMBERS, long_mouse, some_mouse

GREAT = 10 ** 9
TURNER = [("lay", 0, 4, 1), ("turn", 2), ["north", 3, 1], ("take", 0, 4), ("stop",)]
# One line of each kind for a mouse with three stones and five lines, with the greatest number of each place.
AT_MOST = [
    ("go", 4), ("turn", 4), ("lay", 2, 4, 4), ("take", 2, 4), ("say", GREAT, 4), ("wall", 3, 4, 4),
    ("here", 2, 4, 4, 4), ("held", 2, 4, 4), ("north", 4, 4), ("stop",),
]
BAD_LINES = ("BadMouse", "lines")


def with_line(line, stones=3):
    """What is raised for a mouse of five lines with this one among them."""
    rest = [("stop",)] * 2
    return told_error(Mouse, stones, [*rest, line, *rest])


def read_error(text):
    """What Mouse.read raises for a text: the index alone, None for no error."""
    told = told_error(Mouse.read, text)
    return told if told is None or told[:2] != ("BadText", 0) else told[2]


class MouseTest(unittest.TestCase):
    def test_examples(self):
        turner = Mouse(1, TURNER)
        self.assertEqual(
            [turner.stones, turner.lines[2], len(turner.lines), Mouse.read(str(turner)) == turner,
             Mouse(0, [["stop"]]) == Mouse(1, [("stop",)])],
            [1, ("north", 3, 1), 5, True, False],
        )
        self.assertEqual(str(turner), "1 / lay 0 4 1 / turn 2 / north 3 1 / take 0 4 / stop")
        self.assertEqual(told_error(Mouse, 1, [("go", 1)]), BAD_LINES)
        self.assertEqual(told_error(Mouse.read, "1 / lay 1 4 0"), ("BadText", 0, 3))
        self.assertEqual(told_error(Mouse.read, "0 / go 1 / turn 2"), ("BadText", 0, 6))
        self.assertEqual(told_error(Mouse.read, "0"), ("BadText", 0, 1))

    def test_interface(self):
        for name in ("__init__", "__eq__", "__str__", "read"):
            self.assertIn(name, vars(Mouse))
        self.assertEqual(mice.Mouse.__module__, "fourstones.mice")
        self.assertEqual(list(inspect.signature(Mouse).parameters), ["stones", "lines"])
        self.assertEqual(list(inspect.signature(Mouse.read).parameters), ["text"])

    def test_stones_and_lines_are_kept(self):
        for lines in (TURNER, tuple(TURNER), [list(line) for line in TURNER], tuple(map(list, TURNER))):
            for mouse in (Mouse(1, lines), Mouse(lines=lines, stones=1)):
                self.assertEqual((mouse.stones, mouse.lines), (1, tuple(map(tuple, TURNER))))
                self.assertEqual((type(mouse.lines), {type(line) for line in mouse.lines}), (tuple, {tuple}))

    def test_what_was_passed_is_copied(self):
        lines = [["say", 3, 1], ["north", 0, 1]]
        kept = deepcopy(lines)
        mouse = Mouse(0, lines)
        self.assertEqual(lines, kept)
        lines[0][1] = 4
        lines[1].append(7)
        lines.append(["stop"])
        self.assertEqual(mouse.lines, (("say", 3, 1), ("north", 0, 1)))
        self.assertEqual(str(mouse), "0 / say 3 1 / north 0 1")

    def test_equal(self):
        mouse = Mouse(1, TURNER)
        self.assertTrue(mouse == Mouse(1, [list(line) for line in TURNER]))
        self.assertFalse(mouse != Mouse(1, tuple(TURNER)))
        others = (
            Mouse(2, TURNER), Mouse(1, TURNER[:3] + [("stop",), ("stop",)]), Mouse(1, [*TURNER, ("stop",)]),
            Mouse(1, [("lay", 0, 3, 1), *TURNER[1:]]), None, mouse.lines, str(mouse), (1, mouse.lines), Mouse, 1,
        )
        for other in others:
            self.assertIs(mouse == other, False)
            self.assertIs(mouse != other, True)

    def test_numbers_of_stones(self):
        for stones in range(13):
            self.assertEqual(Mouse(stones, [("stop",)]).stones, stones)
        for stones in (*NO_NUMBERS, -1, 13, 10 ** 5000, -10 ** 5000):
            self.assertEqual(told_error(Mouse, stones, [("stop",)]), ("BadMouse", "stones"))
            # Stones are refused ahead of lines.
            for lines in (None, [], [("go", 9)], [("stop",)] * 6001):
                self.assertEqual(told_error(Mouse, stones, lines), ("BadMouse", "stones"))

    def test_numbers_of_lines(self):
        self.assertEqual(len(Mouse(0, [("stop",)]).lines), 1)
        self.assertEqual(len(Mouse(0, [("go", 5999)] * 6000).lines), 6000)
        for lines in ([], (), [("stop",)] * 6001, [("go", 6000)] * 6001, [("go", 6000)] * 6000):
            self.assertEqual(told_error(Mouse, 0, lines), BAD_LINES)

    def test_what_is_no_list_of_lines(self):
        wrong = (
            *ODD, ("stop",), ["stop"], "stop", [["stop"], "stop"], {0: ("stop",)}, {("stop",)}, {("stop",): 0},
            iter([("stop",)]), [("stop",), None], [("stop",), 7], [[("stop",)]], [("stop",), ()], [("stop",), []],
            [{"stop": 0}], Mouse(0, [("stop",)]), "0 / stop", [b"stop"], [(b"stop",)],
        )
        for lines in wrong:
            self.assertEqual(told_error(Mouse, 0, lines), BAD_LINES, lines)

    def test_each_kind_at_its_bounds(self):
        self.assertEqual([line[0] for line in AT_MOST], list(KINDS))
        for line in AT_MOST:
            least = (line[0], *[0] * (len(line) - 1))
            for told in (line, least, list(line), list(least)):
                self.assertIsNone(with_line(told))
            for at in range(1, len(line)):
                for number in (line[at] + 1, -1, 10 ** 40, -10 ** 40, 10 ** 5000):
                    for told in (line, least):
                        self.assertEqual(with_line([*told[:at], number, *told[at + 1:]]), BAD_LINES)
                for number in NO_NUMBERS:
                    self.assertEqual(with_line((*least[:at], number, *least[at + 1:])), BAD_LINES)

    def test_each_kind_with_one_part_more_or_less(self):
        for line in AT_MOST:
            for told in ((*line, 0), [*line, None], line[:-1], (line[0], *line), line[1:], (line,), (*line, line)):
                self.assertEqual(with_line(told), BAD_LINES, told)

    def test_stones_of_lines(self):
        for stones in range(13):
            for line in (("lay", stones, 0, 0), ("take", stones, 0), ("here", stones, 0, 0, 0), ("held", stones, 0, 0)):
                self.assertEqual(with_line(line, stones), BAD_LINES)
                if stones < 12:
                    self.assertIsNone(with_line(line, stones + 1))

    def test_other_words(self):
        words = ("", "Go", "GO", "go ", " go", "left", "right", "about", "if", "stopp", "sto", "line", "/", "-", "bump")
        for word in (*words, *NO_NUMBERS, 0, 1, ("go",)):
            for parts in ((), (0,), (0, 0), (0, 0, 0), (0, 0, 0, 0)):
                self.assertEqual(with_line((word, *parts)), BAD_LINES)


class TextTest(unittest.TestCase):
    def test_written_and_read_back(self):
        made = [some_mouse(seed, seed % 13, 1 + seed % 30) for seed in range(80)]
        for mouse in [*made, Mouse(3, AT_MOST), Mouse(12, [("stop",)]), Mouse(0, [("say", 0, 0)])]:
            text = str(mouse)
            rows = [str(mouse.stones)] + [" ".join(map(str, line)) for line in mouse.lines]
            self.assertEqual(text, " / ".join(rows))
            again = Mouse.read(text)
            self.assertEqual((again.stones, again.lines, str(again)), (mouse.stones, mouse.lines, text))
            self.assertTrue(again == mouse and Mouse.read(text=text) == mouse)

    def test_an_item_exchanged(self):
        text = "3 / lay 2 4 5 / here 2 4 0 5 / wall 3 1 0 / say 1000000000 1 / held 0 2 3 / stop"
        items = text.split(" ")
        self.assertIsNone(read_error(text))
        for at, item in enumerate(items):
            wrong = ["", "x", "-1", "+1", "01", "00", "-0", "1.0", "1_0", " ", "\n", "1\n", item + "\n", "9" * 141,
                     "1" + "0" * 6000, "\u0661", "\u00b2", "Go", "GO", "if", "//", "go/", "None", "1000000001"]
            wrong += ["/"] if item != "/" else ["go", "0"]
            wrong += ["stop", "go"] if not item.isalpha() else ["0"]
            for other in wrong:
                self.assertEqual(read_error(" ".join([*items[:at], other, *items[at + 1:]])), at, (at, other))

    def test_bounds_of_each_place(self):
        for text, at in (
            ("12 / stop", 0), ("2 / lay 1 0 0", 3), ("2 / lay 0 4 0", 4), ("2 / take 1 0", 3), ("2 / here 1 0 0 0", 3),
            ("2 / here 0 4 0 0", 4), ("2 / held 1 0 0", 3), ("2 / wall 3 0 0", 3), ("2 / say 1000000000 0", 3),
            ("2 / go 5999 / stop", 3), ("2 / wall 0 5999 0 / stop", 4), ("2 / wall 0 0 5999 / stop", 5),
        ):
            items = text.split(" ")
            number = int(items[at])
            told = read_error(text)
            # A line that is not there is shown by the whole alone.
            self.assertEqual(told, len(items) - 1 if number == 5999 else None)
            items[at] = str(number + 1)
            self.assertEqual(read_error(" ".join(items)), at)
            for zeros in ("0" * 3, "0" * 150):
                items[at] = zeros + str(number)
                self.assertEqual(read_error(" ".join(items)), at)
            items[at] = "0"
            self.assertIsNone(read_error(" ".join(items)))

    def test_no_stones(self):
        for text in ("0 / lay 0 0 0", "0 / take 0 0", "0 / here 0 0 0 0", "0 / held 0 0 0"):
            self.assertEqual(read_error(text), 3)

    def test_items_left_out_and_put_in(self):
        text = "2 / lay 1 4 1 / wall 3 0 1 / say 7 0"
        items = text.split(" ")
        # For each item: where the text without it fails, then where the text that has it twice fails.
        told = [(0, 1), (1, 2), (2, 3), (3, 6), (5, 6), (5, 6), (6, 7), (7, 8), (10, 11), (10, 11), (10, 11), (11, 12),
                (12, 13), (14, 15), (14, 15)]
        self.assertEqual(len(items), 15)
        for at, (without, doubled) in enumerate(told):
            self.assertEqual(read_error(" ".join(items[:at] + items[at + 1:])), without, at)
            self.assertEqual(read_error(" ".join(items[:at + 1] + items[at:])), doubled, at)
            for put in ("", "x"):
                self.assertEqual(read_error(" ".join([*items[:at], put, *items[at:]])), at)

    def test_cut_off_at_each_item(self):
        mouse = Mouse(3, [(line[0], *[0] * (len(line) - 1)) for line in AT_MOST])
        items = str(mouse).split(" ")
        for many in range(1, len(items)):
            text = " ".join(items[:many])
            whole = items[many] == "/" and many > 1
            self.assertEqual(read_error(text), None if whole else many, text)

    def test_behind_the_end(self):
        for more in ("stop", "0", "", "x", "//", "go 0"):
            self.assertEqual(read_error("0 / stop " + more), 3)
            self.assertEqual(read_error("0 / go 0 " + more), 4)
        self.assertEqual(read_error("0 / stop /"), 4)
        self.assertEqual(read_error("0 / stop / "), 4)

    def test_a_line_that_is_not_there(self):
        for text in ("0 / go 1", "0 / go 1 / turn 2", "1 / north 0 2 / stop", "0 / say 5 3 / stop / stop",
                     "0 / wall 0 2 0 / stop", "0 / go 5999 / stop"):
            self.assertEqual(read_error(text), len(text.split(" ")) - 1, text)
        # What cannot stand behind it comes first.
        self.assertEqual(read_error("0 / go 7 / turn x / stop"), 6)
        self.assertEqual(read_error("0 / go 7 / turn"), 6)
        self.assertEqual(read_error("0 / go 7 /"), 5)
        self.assertEqual(read_error("0 / go 7 / stop 0"), 6)

    def test_many_lines(self):
        text = "0" + " / go 5999" * 6000
        self.assertEqual(len(Mouse.read(text).lines), 6000)
        for more in (" /", " / go 0", " / x", " / stop / stop"):
            self.assertEqual(read_error(text + more), 1 + 3 * 6000)
        self.assertEqual(read_error(text + " go"), 1 + 3 * 6000)
        self.assertEqual(read_error("0" + " / go 5999" * 5999), 3 * 5999)

    def test_no_string(self):
        for value in (*(odd for odd in ODD if not isinstance(odd, str)), 0, Mouse(0, [("stop",)]), ["0", "/", "stop"]):
            self.assertEqual(read_error(value), 0)
        for text in ("", " ", "  ", "/", "/ stop", "stop", "-1 / stop", "13 / stop", " 0 / stop", "0\n/ stop", "\n"):
            self.assertEqual(read_error(text), 0)
        for text in ("0 ", "0  / stop", "0 stop", "0 \t"):
            self.assertEqual(read_error(text), 1)

    def test_great_mice_in_a_short_time(self):
        begin = time.monotonic()
        for seed in range(3):
            mouse = some_mouse(seed, 12, 6000)
            self.assertTrue(Mouse.read(str(mouse)) == mouse)
        self.assertTrue(Mouse.read(str(long_mouse(6000))) == long_mouse(6000))
        self.assertLess(time.monotonic() - begin, 10)


if __name__ == "__main__":
    unittest.main()
