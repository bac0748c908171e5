"""Scripts of many kinds, where they cannot stand, and what they do, by other means than the program's."""

import random

from helpers import SHIFTS
from walkers import SIDES, right_of, seen_at

WORDS = (
    "stones part mouse go right left about lay take say stop set up do if else while wall here held north not and or "
    "ahead behind middle"
).split()
SIDE_WORDS = ("ahead", "right", "behind", "left")
SPOT_WORDS = (*SIDE_WORDS, "middle")
QUARTERS = {"right": 1, "about": 2, "left": 3}
# What has to come behind a word, in the language of the automaton below: small words are kinds of items.
BEHIND = {
    "go": "", "right": "", "left": "", "about": "", "stop": "", "lay": "STONE SPOT", "take": "STONE", "say": "SAID",
    "set": "FLAG LEVEL", "up": "FLAG BOUND", "do": "KNOWN", "if": "COND { DEEDS } ELSE", "while": "COND { DEEDS }",
}
ASKS = {"wall": "SIDE", "here": "STONE SPOT", "held": "STONE", "north": "", "(": "COND JOINT COND )", "not": "COND"}
BOUNDS = {"STONES": (0, 12), "SAID": (0, 10 ** 9), "LEVEL": (0, 99), "BOUND": (1, 99)}


def is_name(item):
    """Whether an item has the form of a name."""
    signs = "abcdefghijklmnopqrstuvwxyz0123456789"
    return 0 < len(item) < 13 and set(item) <= set(signs) and item[0] not in "0123456789" and item not in WORDS


def is_number(item, least, most):
    """Whether an item is an integer within bounds, written as texts want it."""
    return item.isascii() and item.isdigit() and item == (item.lstrip("0") or "0") and least <= int(item) <= most


class Automaton:
    """Takes items one by one off a stack of what has to come."""

    def __init__(self):
        self.stack = "END BODY STONES stones".split()
        self.known, self.stones, self.open, self.nots, self.taken = [], 0, 0, 0, 0

    def push(self, wanted):
        self.stack.extend(reversed(wanted.split()))

    def takes(self, item):
        """Takes an item; whether it can stand."""
        self.taken += 1
        if self.taken > 3000:
            return False
        told = self.taken_by(self.stack.pop(), item)
        self.nots = self.nots + 1 if item == "not" else 0
        return told

    def opens(self, item):
        self.open += 1 if item in "{(" else -1
        return self.open <= 20

    def taken_by(self, wanted, item):
        if wanted in BOUNDS:
            self.stones = int(item) if wanted == "STONES" and is_number(item, 0, 12) else self.stones
            return is_number(item, *BOUNDS[wanted])
        if wanted == "STONE":
            return is_number(item, 0, self.stones - 1)
        if wanted in ("SIDE", "SPOT"):
            return item in (SIDE_WORDS if wanted == "SIDE" else SPOT_WORDS)
        if wanted in ("FLAG", "NAME"):
            if wanted == "NAME":
                self.stack.insert(0, item)
            return is_name(item) and not (wanted == "NAME" and item in self.known)
        if wanted == "KNOWN":
            return item in self.known
        if wanted == "JOINT":
            return item in ("and", "or")
        if wanted == "BODY":
            # The name of the part lies at the ground of the stack until it is known.
            self.push("NAME { DEEDS } LEARN BODY" if item == "part" else "{ DEEDS }")
            return item == "mouse" or item == "part" and len(self.known) < 60
        if wanted == "LEARN":
            self.known.append(self.stack.pop(0))
            return self.taken_by(self.stack.pop(), item)
        if wanted == "ELSE":
            if item == "else":
                self.push("{ DEEDS }")
                return True
            return self.taken_by(self.stack.pop(), item)
        if wanted == "DEEDS":
            if item == "}":
                return self.taken_by(self.stack.pop(), item)
            self.push(BEHIND.get(item, "") + " DEEDS")
            return item in BEHIND
        if wanted == "COND":
            if item in ASKS:
                self.push(ASKS[item])
                return (item != "(" or self.opens(item)) and (item != "not" or self.nots < 40)
            self.push("= LEVEL")
            return is_name(item)
        return wanted == item != "END" and (item in ("stones", "=") or self.opens(item))


def fault_in(text):
    """The index of the first item that cannot stand in a script, or the number of items; None for a script."""
    automaton = Automaton()
    items = text.split(" ")
    for at, item in enumerate(items):
        if not automaton.takes(item):
            return at
    return None if automaton.stack == ["END"] else len(items)


def some_condition(chance, stones, depth):
    """The items of a condition."""
    kind = chance.randrange(8 if depth else 5)
    if kind < 2:
        return ["wall", chance.choice(SIDE_WORDS)]
    if kind == 2:
        return ["north"] if not stones else ["held", str(chance.randrange(stones))]
    if kind == 3:
        return [chance.choice("abc"), "=", str(chance.randrange(4))]
    if kind == 4:
        return ["north"] if not stones else ["here", str(chance.randrange(stones)), chance.choice(SPOT_WORDS)]
    if kind == 5:
        return ["not", *some_condition(chance, stones, depth - 1)]
    one, other = some_condition(chance, stones, depth - 1), some_condition(chance, stones, depth - 1)
    return ["(", *one, chance.choice(("and", "or")), *other, ")"]


def some_deeds(chance, stones, names, depth):
    """The items of some deeds."""
    items = []
    for _ in range(chance.randrange(5)):
        kind = chance.choice(("go", "turn", "stone", "say", "stop", "flag", "do", "if", "else", "while", "while"))
        if kind == "go":
            items += ["if", "not", "wall", "ahead", "{", "go", "}"] if chance.random() < 0.6 and depth else ["go"]
        elif kind == "turn":
            items.append(chance.choice(list(QUARTERS)))
        elif kind == "stone" and stones:
            stone, spot = str(chance.randrange(stones)), chance.choice(SPOT_WORDS)
            lay, take = ["lay", stone, spot], ["take", stone]
            items += ["if", "held", stone, "{", *lay, "}"] if chance.random() < 0.6 and depth else chance.choice((lay, take))
        elif kind == "say":
            items += ["say", str(chance.choice((0, 7, 10 ** 9)))]
        elif kind == "stop" and chance.random() < 0.3:
            items.append("stop")
        elif kind == "flag":
            flag = chance.choice("abc")
            items += ["set", flag, str(chance.randrange(4))] if chance.random() < 0.4 else ["up", flag, chance.choice("1234")]
        elif kind == "do" and names:
            items += ["do", chance.choice(names)]
        elif depth and kind in ("if", "else", "while"):
            items += ["if" if kind == "else" else kind, *some_condition(chance, stones, 2)]
            items += ["{", *some_deeds(chance, stones, names, depth - 1), "}"]
            if kind == "else":
                items += ["else", "{", *some_deeds(chance, stones, names, depth - 1), "}"]
    return items


def some_script(seed):
    """The text of a script with up to three parts."""
    chance = random.Random(seed)
    stones, names, items = chance.randrange(4), [], []
    for name in chance.sample(("a", "p2", "longest1name"), chance.randrange(4)):
        items += ["part", name, "{", *some_deeds(chance, stones, names, 2), "}"]
        names.append(name)
    deeds = some_deeds(chance, stones, names, 3) + some_deeds(chance, stones, names, 3)
    return " ".join(["stones", str(stones), *items, "mouse", "{", *deeds, "}"])


class Ended(Exception):
    """The script is at its end."""


class Player:
    """Does the items of a script that is right, going to and fro in them; notes all that is a step."""

    def __init__(self, text, floor, cell, side, most):
        self.items = text.split(" ")
        self.cells = set(floor.cells)
        self.cell, self.nose, self.most = tuple(cell), SHIFTS[side], most
        self.stones = [None] * int(self.items[1])
        self.flags, self.deeds, self.looks, self.steps = {}, [], [], 0
        self.parts = {self.items[at + 1]: at + 2 for at, item in enumerate(self.items) if item == "part"}

    def play(self):
        """The word of the end, None if the steps are not enough."""
        try:
            self.do_block(self.items.index("mouse") + 1)
            self.step()
            return "stop"
        except Ended as end:
            return end.args[0]

    def step(self):
        if self.steps == self.most:
            raise Ended(None)
        self.steps += 1

    def behind_block(self, at):
        """The place behind the block that begins at a brace."""
        many = 0
        while True:
            many += {"{": 1, "}": -1}.get(self.items[at], 0)
            at += 1
            if not many:
                return at

    def do_block(self, at):
        """Does the deeds of a block; the place behind it."""
        at += 1
        while self.items[at] != "}":
            at = self.do_deed(self.items[at], at + 1)
        return at + 1

    def do_deed(self, word, at):
        """Does the deed with this word, behind which stands what begins at a place; the place behind the deed."""
        if word in ("if", "while"):
            return self.do_choice(word, at)
        if word in QUARTERS:
            for _ in range(QUARTERS[word]):
                self.step()
                self.nose = right_of(self.nose)
                self.deeds.append(("turn",))
            return at
        if word == "do":
            self.do_block(self.parts[self.items[at]])
            return at + 1
        if word in ("set", "up"):
            flag, number = self.items[at], int(self.items[at + 1])
            now = self.flags.get(flag, 0)
            self.flags[flag] = number if word == "set" else 0 if now + 1 >= number else now + 1
            return at + 2
        self.step()
        return self.do_step(word, at)

    def do_step(self, word, at):
        if word == "stop":
            raise Ended("stop")
        if word == "go":
            ahead = (self.cell[0] + self.nose[0], self.cell[1] + self.nose[1])
            if ahead not in self.cells:
                raise Ended("bump")
            self.cell = ahead
            self.deeds.append(("go",))
            return at
        number = int(self.items[at])
        if word == "say":
            self.deeds.append(("say", number))
            return at + 1
        lies = self.stones[number]
        if word == "take":
            if lies is None or lies[0] != self.cell:
                raise Ended("fault")
            self.stones[number] = None
            self.deeds.append(("take", number))
            return at + 1
        if lies is not None:
            raise Ended("fault")
        spot = SPOT_WORDS.index(self.items[at + 1])
        self.stones[number] = (self.cell, seen_at(self.nose, spot))
        self.deeds.append(("lay", number, spot))
        return at + 2

    def do_choice(self, word, at):
        while True:
            if word == "while":
                self.step()
            so, block = self.ask(at)
            behind = self.behind_block(block)
            if so:
                self.do_block(block)
            if word == "if" or not so:
                break
        if word == "if" and self.items[behind] == "else":
            if not so:
                self.do_block(behind + 1)
            behind = self.behind_block(behind + 1)
        return behind

    def ask(self, at):
        """Whether a condition is so, and the place behind it."""
        word = self.items[at]
        if word == "not":
            so, at = self.ask(at + 1)
            return not so, at
        if word == "(":
            one, at = self.ask(at + 1)
            joint = self.items[at]
            if one == (joint == "or"):
                return one, self.skip(at + 1) + 1
            other, at = self.ask(at + 1)
            return other, at + 1
        if word in ("wall", "here", "held", "north"):
            return self.look(word, at + 1)
        return self.flags.get(word, 0) == int(self.items[at + 2]), at + 3

    def skip(self, at):
        """The place behind a condition that is not asked."""
        many = {"wall": 2, "here": 3, "held": 2, "north": 1}
        while self.items[at] == "not":
            at += 1
        if self.items[at] == "(":
            return self.skip(self.skip(at + 1) + 1) + 1
        return at + many.get(self.items[at], 3)

    def look(self, word, at):
        self.step()
        if word == "north":
            so, behind = self.nose == (0, 1), at
        elif word == "wall":
            look = seen_at(self.nose, SIDE_WORDS.index(self.items[at]))
            so, behind = (self.cell[0] + look[0], self.cell[1] + look[1]) not in self.cells, at + 1
        elif word == "held":
            so, behind = self.stones[int(self.items[at])] is None, at + 1
        else:
            spot = seen_at(self.nose, SPOT_WORDS.index(self.items[at + 1]))
            so, behind = self.stones[int(self.items[at])] == (self.cell, spot), at + 2
        self.looks.append((word, *self.items[at:behind], so, SIDES[self.nose], self.cell))
        return so, behind
