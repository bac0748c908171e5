"""Reckoners and their texts."""

import inspect
import time
import unittest
from copy import deepcopy

from fourstones import reckoners
from fourstones.mice import Mouse
from fourstones.reckoners import Reckoner
from helpers import ODD, told_error
from reckoned import KINDS, some_reckoner
from walkers import NO_NUMBERS

GREAT = 10 ** 9
CELLS = [("say", 1, 1), ["up", 0, 2], ("home", 0, 3, 0), ("stop",)]
CELLS_TEXT = "1 / say 1 1 / up 0 2 / home 0 3 0 / stop"
# One line of each kind for a reckoner with three boxes and five lines, with the greatest number of each place.
AT_MOST = [
    ("up", 2, 4), ("copy", 2, 2, 4), ("step", 2, 3, 4), ("same", 2, 2, 4, 4), ("wall", 2, 3, 4, 4), ("home", 2, 4, 4),
    ("say", GREAT, 4), ("stop",), ("fault",),
]
BAD_BOXES, BAD_LINES = ("BadReckoner", "boxes"), ("BadReckoner", "lines")


def with_line(line, boxes=3):
    """What is raised for a reckoner of five lines with this one among them."""
    rest = [("stop",)] * 2
    return told_error(Reckoner, boxes, [*rest, line, *rest])


def read_error(text):
    """What Reckoner.read raises for a text: the index alone, None for no error."""
    told = told_error(Reckoner.read, text)
    return told if told is None or told[:2] != ("BadText", 0) else told[2]


class ReckonerTest(unittest.TestCase):
    def test_examples(self):
        cells = Reckoner(1, CELLS)
        self.assertEqual(
            [str(cells), Reckoner.read(CELLS_TEXT) == cells, cells.boxes, cells.lines[1]], [CELLS_TEXT, True, 1, ("up", 0, 2)],
        )
        self.assertEqual(told_error(Reckoner, 1, [("copy", 0, 1, 0)]), BAD_LINES)
        self.assertEqual(told_error(Reckoner.read, "1 / up 0 1"), ("BadText", 0, 4))
        self.assertEqual(told_error(Reckoner.read, "1 / up 1 0"), ("BadText", 0, 3))

    def test_interface(self):
        for name in ("__init__", "__eq__", "__str__", "read"):
            self.assertIn(name, vars(Reckoner))
        self.assertEqual(reckoners.Reckoner.__module__, "fourstones.reckoners")
        self.assertEqual(list(inspect.signature(Reckoner).parameters), ["boxes", "lines"])
        self.assertEqual(list(inspect.signature(Reckoner.read).parameters), ["text"])

    def test_boxes_and_lines_are_kept(self):
        for lines in (CELLS, tuple(CELLS), [list(line) for line in CELLS], tuple(map(list, CELLS))):
            for reckoner in (Reckoner(1, lines), Reckoner(lines=lines, boxes=1)):
                self.assertEqual((reckoner.boxes, reckoner.lines), (1, tuple(map(tuple, CELLS))))
                self.assertEqual((type(reckoner.lines), {type(line) for line in reckoner.lines}), (tuple, {tuple}))

    def test_what_was_passed_is_copied(self):
        lines = [["say", 3, 1], ["home", 0, 0, 1]]
        kept = deepcopy(lines)
        reckoner = Reckoner(2, lines)
        self.assertEqual(lines, kept)
        lines[0][1] = 4
        lines[1].append(7)
        lines.append(["stop"])
        self.assertEqual(reckoner.lines, (("say", 3, 1), ("home", 0, 0, 1)))
        self.assertEqual(str(reckoner), "2 / say 3 1 / home 0 0 1")

    def test_equal(self):
        reckoner = Reckoner(1, CELLS)
        self.assertTrue(reckoner == Reckoner(1, [list(line) for line in CELLS]))
        self.assertFalse(reckoner != Reckoner(1, tuple(CELLS)))
        others = (
            Reckoner(2, CELLS), Reckoner(1, [*CELLS[:3], ("fault",)]), Reckoner(1, [*CELLS, ("stop",)]),
            Reckoner(1, [("say", 2, 1), *CELLS[1:]]), None, reckoner.lines, str(reckoner), (1, reckoner.lines), Reckoner, 1,
            Mouse(1, [("stop",)]),
        )
        for other in others:
            self.assertIs(reckoner == other, False)
            self.assertIs(reckoner != other, True)
        self.assertIs(Reckoner(1, [("stop",)]) == Mouse(1, [("stop",)]), False)
        self.assertIs(Mouse(1, [("stop",)]) == Reckoner(1, [("stop",)]), False)

    def test_numbers_of_boxes(self):
        for boxes in range(1, 13):
            self.assertEqual(Reckoner(boxes, [("stop",)]).boxes, boxes)
        for boxes in (*NO_NUMBERS, 0, -1, 13, 10 ** 5000, -10 ** 5000):
            self.assertEqual(told_error(Reckoner, boxes, [("stop",)]), BAD_BOXES)
            # Boxes are refused ahead of lines.
            for lines in (None, [], [("up", 0, 9)], [("stop",)] * 6001):
                self.assertEqual(told_error(Reckoner, boxes, lines), BAD_BOXES)

    def test_numbers_of_lines(self):
        self.assertEqual(len(Reckoner(1, [("stop",)]).lines), 1)
        self.assertEqual(len(Reckoner(1, [("up", 0, 5999)] * 6000).lines), 6000)
        for lines in ([], (), [("stop",)] * 6001, [("up", 0, 6000)] * 6001, [("up", 0, 6000)] * 6000):
            self.assertEqual(told_error(Reckoner, 1, lines), BAD_LINES)

    def test_what_is_no_list_of_lines(self):
        wrong = (
            *ODD, ("stop",), ["stop"], "stop", [["stop"], "stop"], {0: ("stop",)}, {("stop",)}, {("stop",): 0},
            iter([("stop",)]), [("stop",), None], [("stop",), 7], [[("stop",)]], [("stop",), ()], [("stop",), []],
            [{"stop": 0}], Reckoner(1, [("stop",)]), "1 / stop", [b"stop"], [(b"stop",)], [("go", 0)], [("turn", 0)],
        )
        for lines in wrong:
            self.assertEqual(told_error(Reckoner, 1, lines), BAD_LINES, lines)

    def test_each_kind_at_its_bounds(self):
        self.assertEqual([line[0] for line in AT_MOST], list(KINDS))
        for line in AT_MOST:
            least = (line[0], *[0] * (len(line) - 1))
            for told in (line, least, list(line), list(least)):
                self.assertIsNone(with_line(told))
            for at in range(1, len(line)):
                for number in (line[at] + 1, -1, 10 ** 40, -10 ** 40, 10 ** 5000):
                    for told in (line, least):
                        self.assertEqual(with_line([*told[:at], number, *told[at + 1:]]), BAD_LINES)
                for number in NO_NUMBERS:
                    self.assertEqual(with_line((*least[:at], number, *least[at + 1:])), BAD_LINES)

    def test_each_kind_with_one_part_more_or_less(self):
        for line in AT_MOST:
            for told in ((*line, 0), [*line, None], line[:-1], (line[0], *line), line[1:], (line,), (*line, line)):
                self.assertEqual(with_line(told), BAD_LINES, told)

    def test_boxes_of_lines(self):
        for boxes in range(1, 13):
            for line in (("up", boxes, 0), ("copy", boxes, 0, 0), ("copy", 0, boxes, 0), ("step", boxes, 0, 0),
                         ("same", boxes, 0, 0, 0), ("same", 0, boxes, 0, 0), ("wall", boxes, 0, 0, 0), ("home", boxes, 0, 0)):
                self.assertEqual(with_line(line, boxes), BAD_LINES)
                if boxes < 12:
                    self.assertIsNone(with_line(line, boxes + 1))

    def test_other_words(self):
        words = ("", "Up", "UP", "up ", " up", "go", "turn", "lay", "take", "here", "held", "north", "stopp", "/", "bump")
        for word in (*words, *NO_NUMBERS, 0, 1, ("up",)):
            for parts in ((), (0,), (0, 0), (0, 0, 0), (0, 0, 0, 0)):
                self.assertEqual(with_line((word, *parts)), BAD_LINES)


class TextTest(unittest.TestCase):
    def test_written_and_read_back(self):
        made = [some_reckoner(seed, 1 + seed % 12, 1 + seed % 30) for seed in range(80)]
        for reckoner in [*made, Reckoner(3, AT_MOST), Reckoner(12, [("stop",)]), Reckoner(1, [("say", 0, 0)])]:
            text = str(reckoner)
            rows = [str(reckoner.boxes)] + [" ".join(map(str, line)) for line in reckoner.lines]
            self.assertEqual(text, " / ".join(rows))
            again = Reckoner.read(text)
            self.assertEqual((again.boxes, again.lines, str(again)), (reckoner.boxes, reckoner.lines, text))
            self.assertTrue(again == reckoner and Reckoner.read(text=text) == reckoner)

    def test_an_item_exchanged(self):
        text = ("3 / up 2 5 / copy 1 2 0 / step 0 3 8 / same 2 1 0 5 / wall 2 3 1 0 / home 0 2 3 / say 1000000000 1 / stop "
                "/ fault")
        items = text.split(" ")
        self.assertIsNone(read_error(text))
        for at, item in enumerate(items):
            wrong = ["", "x", "-1", "+1", "01", "00", "-0", "1.0", "1_0", " ", "\n", "1\n", item + "\n", "9" * 141,
                     "1" + "0" * 6000, "\u0661", "\u00b2", "Up", "UP", "go", "//", "up/", "None", "1000000001"]
            wrong += ["/"] if item != "/" else ["up", "0"]
            wrong += ["stop", "up"] if not item.isalpha() else ["0"]
            for other in wrong:
                self.assertEqual(read_error(" ".join([*items[:at], other, *items[at + 1:]])), at, (at, other))

    def test_bounds_of_each_place(self):
        for text, at in (
            ("12 / stop", 0), ("2 / up 1 0", 3), ("2 / copy 1 0 0", 3), ("2 / copy 0 1 0", 4), ("2 / step 1 0 0", 3),
            ("2 / step 0 3 0", 4), ("2 / same 1 0 0 0", 3), ("2 / same 0 1 0 0", 4), ("2 / wall 1 0 0 0", 3),
            ("2 / wall 0 3 0 0", 4), ("2 / home 1 0 0", 3), ("2 / say 1000000000 0", 3), ("2 / up 0 5999 / stop", 4),
            ("2 / same 0 0 5999 0 / stop", 5), ("2 / wall 0 0 0 5999 / stop", 6), ("2 / home 0 5999 0 / stop", 4),
        ):
            items = text.split(" ")
            number = int(items[at])
            told = read_error(text)
            # A line that is not there is shown by the whole alone.
            self.assertEqual(told, len(items) - 1 if number == 5999 else None)
            items[at] = str(number + 1)
            self.assertEqual(read_error(" ".join(items)), at)
            for zeros in ("0" * 3, "0" * 150):
                items[at] = zeros + str(number)
                self.assertEqual(read_error(" ".join(items)), at)
            items[at] = "0"
            self.assertEqual(read_error(" ".join(items)), 0 if at == 0 else None)

    def test_items_left_out_and_put_in(self):
        text = "2 / copy 1 1 1 / wall 1 0 1 0 / say 7 0"
        items = text.split(" ")
        # For each item: where the text without it fails, then where the text that has it twice fails.
        told = [(0, 1), (1, 2), (2, 3), (5, 6), (5, 6), (5, 6), (6, 7), (7, 8), (11, 12), (11, 12), (11, 12), (11, 12),
                (12, 13), (13, 14), (15, 16), (15, 16)]
        wanted = []
        for at in range(len(items)):
            without = read_error(" ".join(items[:at] + items[at + 1:]))
            doubled = read_error(" ".join(items[:at + 1] + items[at:]))
            wanted.append((without, doubled))
            for put in ("", "x"):
                self.assertEqual(read_error(" ".join([*items[:at], put, *items[at:]])), at)
        self.assertEqual(wanted, told)

    def test_cut_off_at_each_item(self):
        reckoner = Reckoner(3, [(line[0], *[0] * (len(line) - 1)) for line in AT_MOST])
        items = str(reckoner).split(" ")
        for many in range(1, len(items)):
            text = " ".join(items[:many])
            whole = items[many] == "/" and many > 1
            self.assertEqual(read_error(text), None if whole else many, text)

    def test_behind_the_end(self):
        for more in ("stop", "0", "", "x", "//", "up 0 0"):
            self.assertEqual(read_error("1 / stop " + more), 3)
            self.assertEqual(read_error("1 / up 0 0 " + more), 5)
        self.assertEqual(read_error("1 / stop /"), 4)
        self.assertEqual(read_error("1 / stop / "), 4)

    def test_a_line_that_is_not_there(self):
        for text in ("1 / up 0 1", "1 / up 0 1 / say 4 2", "1 / home 0 0 2 / stop", "1 / say 5 3 / stop / fault",
                     "1 / wall 0 0 2 0 / stop", "1 / step 0 1 5999 / stop", "1 / copy 0 0 7", "1 / same 0 0 1 0"):
            self.assertEqual(read_error(text), len(text.split(" ")) - 1, text)
        # What cannot stand behind it comes first.
        self.assertEqual(read_error("1 / up 0 7 / say x / stop"), 7)
        self.assertEqual(read_error("1 / up 0 7 / say"), 7)
        self.assertEqual(read_error("1 / up 0 7 /"), 6)
        self.assertEqual(read_error("1 / up 0 7 / stop 0"), 7)

    def test_many_lines(self):
        text = "1" + " / up 0 5999" * 6000
        self.assertEqual(len(Reckoner.read(text).lines), 6000)
        for more in (" /", " / up 0 0", " / x", " / stop / stop"):
            self.assertEqual(read_error(text + more), 1 + 4 * 6000)
        self.assertEqual(read_error(text + " up"), 1 + 4 * 6000)
        self.assertEqual(read_error("1" + " / up 0 5999" * 5999), 4 * 5999)

    def test_no_string(self):
        for value in (*(odd for odd in ODD if not isinstance(odd, str)), 0, Reckoner(1, [("stop",)]), ["1", "/", "stop"]):
            self.assertEqual(read_error(value), 0)
        for text in ("", " ", "  ", "/", "/ stop", "stop", "-1 / stop", "0 / stop", "13 / stop", " 1 / stop", "1\n/ stop"):
            self.assertEqual(read_error(text), 0)
        for text in ("1", "1 ", "1  / stop", "1 stop", "1 \t"):
            self.assertEqual(read_error(text), 1)

    def test_great_reckoners_in_a_short_time(self):
        begin = time.monotonic()
        for seed in range(4):
            reckoner = some_reckoner(seed, 12, 6000)
            self.assertTrue(Reckoner.read(str(reckoner)) == reckoner)
        self.assertLess(time.monotonic() - begin, 10)


if __name__ == "__main__":
    unittest.main()
