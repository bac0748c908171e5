"""Scripts read item by item, into trees of deeds and conditions.

A deed is a tuple of its word and what stands behind it; each quarter is a deed "turn" of its own; "if" and "while"
hold a condition and tuples of deeds. A condition is a look as in the lines of mice, ("is", FLAG, N), ("not", COND),
("and", COND, COND) or ("or", COND, COND).
"""

from fourstones.errors import BadText
from fourstones.mice import MOST_STONES
from fourstones.texts import items_of, number_told

MOST_ITEMS = 3000
MOST_PARTS = 60
MOST_NOTS = 40
MOST_OPEN = 20
MOST_SIGNS = 12
LETTERS = "abcdefghijklmnopqrstuvwxyz"
SIGNS = "abcdefghijklmnopqrstuvwxyz0123456789"
WORDS = (
    "stones", "part", "mouse", "go", "right", "left", "about", "lay", "take", "say", "stop", "set", "up", "do", "if",
    "else", "while", "wall", "here", "held", "north", "not", "and", "or", "ahead", "behind", "middle",
)
SPOTS = ("ahead", "right", "behind", "left", "middle")
SIDES = ("ahead", "right", "behind", "left")
TURNS = {"right": 1, "about": 2, "left": 3}
# What stands behind the word of a simple deed, and of a look.
DEEDS = {
    "go": (),
    "lay": ("stone", "spot"),
    "take": ("stone",),
    "say": ("number",),
    "stop": (),
    "set": ("flag", "level"),
    "up": ("flag", "bound"),
    "do": ("part",),
}
LOOKS = {"wall": ("side",), "here": ("stone", "spot"), "held": ("stone",), "north": ()}
BOUNDS = {"number": (0, 1000000000), "level": (0, 99), "bound": (1, 99)}


def is_name(item):
    """Whether the item can be the name of a part or a flag."""
    if not 1 <= len(item) <= MOST_SIGNS or item in WORDS:
        return False
    return item[0] in LETTERS and all([sign in SIGNS for sign in item])


class Reader:
    """Goes through the items of a script, and raises BadText(0, item) for the first that cannot stand."""

    def __init__(self, text):
        self.words = items_of(text)
        self.at = 0
        self.opened = 0
        self.stones = 0
        self.parts = {}
        self.flags = {}
        self.deeds = ()

    def coming(self):
        """The item that comes next; where none can stand an empty one, which fits nowhere."""
        if self.at >= len(self.words) or self.at >= MOST_ITEMS:
            return ""
        return self.words[self.at]

    def take_word(self, wanted):
        """The next item, which has to be one of those wanted."""
        word = self.coming()
        if word not in wanted:
            raise BadText(0, self.at)
        self.at += 1
        return word

    def take_number(self, least, most):
        """The integer that the next item tells."""
        number = number_told(self.coming(), least, most)
        if number is None:
            raise BadText(0, self.at)
        self.at += 1
        return number

    def take_name(self):
        """The name that the next item is."""
        name = self.coming()
        if not is_name(name):
            raise BadText(0, self.at)
        self.at += 1
        return name

    def take_flag(self):
        """The name of a flag."""
        flag = self.take_name()
        self.flags[flag] = True
        return flag

    def take_opening(self, sign):
        """A sign that opens; not too many are open together."""
        if self.opened == MOST_OPEN:
            raise BadText(0, self.at)
        self.take_word((sign,))
        self.opened += 1

    def take_closing(self, sign):
        """The sign that closes what was opened last."""
        self.take_word((sign,))
        self.opened -= 1

    def take_place(self, kind):
        """What stands behind a word, of this kind."""
        if kind == "stone":
            return self.take_number(0, self.stones - 1)
        if kind == "spot":
            return SPOTS.index(self.take_word(SPOTS))
        if kind == "side":
            return SIDES.index(self.take_word(SIDES))
        if kind == "flag":
            return self.take_flag()
        if kind == "part":
            return self.take_word(self.parts)
        least, most = BOUNDS[kind]
        return self.take_number(least, most)

    def take_places(self, kinds):
        """What stands behind a word, one by one."""
        return [self.take_place(kind) for kind in kinds]

    def take_block(self):
        """The deeds between two braces."""
        self.take_opening("{")
        deeds = []
        while self.coming() != "}":
            deeds.extend(self.take_deed())
        self.take_closing("}")
        return tuple(deeds)

    def take_deed(self):
        """The deeds that a deed of the script stands for."""
        word = self.coming()
        if word in DEEDS:
            self.at += 1
            return [(word, *self.take_places(DEEDS[word]))]
        if word in TURNS:
            self.at += 1
            return [("turn",)] * TURNS[word]
        self.take_word(("if", "while"))
        condition = self.take_condition()
        deeds = self.take_block()
        if word == "while":
            return [("while", condition, deeds)]
        others = ()
        if self.coming() == "else":
            self.at += 1
            others = self.take_block()
        return [("if", condition, deeds, others)]

    def take_condition(self):
        """A condition, with any `not` ahead of it."""
        nots = 0
        while self.coming() == "not":
            if nots == MOST_NOTS:
                raise BadText(0, self.at)
            self.at += 1
            nots += 1
        condition = self.take_plain_condition()
        return condition if nots % 2 == 0 else ("not", condition)

    def take_plain_condition(self):
        """A condition without `not` ahead of it."""
        word = self.coming()
        if word in LOOKS:
            self.at += 1
            return (word, *self.take_places(LOOKS[word]))
        if word == "(":
            self.take_opening("(")
            one = self.take_condition()
            joint = self.take_word(("and", "or"))
            other = self.take_condition()
            self.take_closing(")")
            return (joint, one, other)
        flag = self.take_flag()
        self.take_word(("=",))
        return ("is", flag, self.take_number(0, 99))

    def take_part(self):
        """A part; its name can be used only behind it."""
        if len(self.parts) == MOST_PARTS:
            raise BadText(0, self.at)
        self.take_word(("part",))
        if self.coming() in self.parts:
            raise BadText(0, self.at)
        name = self.take_name()
        self.parts[name] = self.take_block()

    def take_script(self):
        """The whole script: afterwards stones, parts, flags and the deeds of the mouse are told."""
        self.take_word(("stones",))
        self.stones = self.take_number(0, MOST_STONES)
        while self.coming() == "part":
            self.take_part()
        self.take_word(("mouse",))
        self.deeds = self.take_block()
        if self.at < len(self.words):
            raise BadText(0, self.at)
