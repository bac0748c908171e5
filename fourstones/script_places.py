"""Scripts as tables of places, each of which tells which place is next.

Places of looks, deeds and stops are lines as those of mice. The others are silent, as no line of a mouse does so:
("set", FLAG, N, NEXT), ("up", FLAG, N, NEXT), ("is", FLAG, N, YES, NO), ("do", BEGIN, NEXT), which begins a part,
("back",), which ends one, and ("ask", NEXT) ahead of each asking of a `while`.
"""

SILENT = ("set", "up", "do", "back", "is", "ask")


class Places:
    """The places of a script, put from the last one of each row of deeds to its first one."""

    def __init__(self):
        self.rows = []
        self.begins = {}

    def put(self, row):
        """The number of a new place."""
        self.rows.append(row)
        return len(self.rows) - 1

    def put_deeds(self, deeds, following):
        """Where deeds begin behind which this place comes."""
        for deed in reversed(deeds):
            following = self.put_deed(deed, following)
        return following

    def put_deed(self, deed, following):
        """Where a deed begins behind which this place comes."""
        kind = deed[0]
        if kind == "if":
            yes = self.put_deeds(deed[2], following)
            no = self.put_deeds(deed[3], following)
            return self.put_condition(deed[1], yes, no)
        if kind == "while":
            ask = self.put(("ask", 0))
            inner = self.put_deeds(deed[2], ask)
            self.rows[ask] = ("ask", self.put_condition(deed[1], inner, following))
            return ask
        if kind == "do":
            return self.put(("do", self.begins[deed[1]], following))
        if kind == "stop":
            return self.put(deed)
        return self.put((*deed, following))

    def put_condition(self, condition, yes, no):
        """Where a condition begins behind which one of these places comes."""
        kind = condition[0]
        if kind == "not":
            return self.put_condition(condition[1], no, yes)
        if kind == "and":
            return self.put_condition(condition[1], self.put_condition(condition[2], yes, no), no)
        if kind == "or":
            return self.put_condition(condition[1], yes, self.put_condition(condition[2], yes, no))
        return self.put((*condition, yes, no))

    def put_part(self, name, deeds):
        """A part, which can be begun from now on."""
        self.begins[name] = self.put_deeds(deeds, self.put(("back",)))

    def put_mouse(self, deeds):
        """Where the deeds of the mouse begin, behind which it stops."""
        return self.put_deeds(deeds, self.put(("stop",)))


def place_behind(row, flags, backs):
    """The place behind a silent one; flags tells what each flag is, backs where the begun parts go on."""
    kind = row[0]
    if kind == "ask":
        return row[1]
    if kind == "back":
        return backs.pop()
    if kind == "do":
        backs.append(row[2])
        return row[1]
    flag = row[1]
    if kind == "is":
        return row[3] if flags[flag] == row[2] else row[4]
    if kind == "set":
        flags[flag] = row[2]
    else:
        flags[flag] = flags[flag] + 1 if flags[flag] + 1 < row[2] else 0
    return row[3]
