"""The errors of the package. Each is made with its fields, and keeps them as they were passed."""


class StoneError(ValueError):
    """The base of all errors of the package."""


def named(field):
    """What a message tells of a field: a text only, as Python refuses to write the greatest integers."""
    return field if isinstance(field, str) else "(no text)"


class BadNumber(StoneError):
    """What was passed is no integer, or is not within its bounds."""

    def __init__(self, part):
        super().__init__(f"no integer that may stand here: {named(part)}")
        self.part = part


class BadFloor(StoneError):
    """What was passed is no floor, or no cells of one."""

    def __init__(self, part):
        super().__init__(f"no floor: {named(part)}")
        self.part = part


class BadCell(StoneError):
    """What was passed is no cell."""

    def __init__(self, part):
        super().__init__(f"no cell: {named(part)}")
        self.part = part


class BadWall(StoneError):
    """What was passed is no wall of the floor."""

    def __init__(self, part):
        super().__init__(f"no wall of this floor: {named(part)}")
        self.part = part


class BadMouse(StoneError):
    """What was passed is no mouse, or a mouse cannot be made of it."""

    def __init__(self, part):
        super().__init__(f"no mouse: {named(part)}")
        self.part = part


class BadTrip(StoneError):
    """What was passed is no trip."""

    def __init__(self, part):
        super().__init__(f"no trip: {named(part)}")
        self.part = part


class BadScript(StoneError):
    """What was passed is no script."""

    def __init__(self, part):
        super().__init__(f"no script: {named(part)}")
        self.part = part


class BadReckoner(StoneError):
    """What was passed is no reckoner, or a reckoner cannot be made of it."""

    def __init__(self, part):
        super().__init__(f"no reckoner: {named(part)}")
        self.part = part


class Misfit(StoneError):
    """What was passed is right alone, but does not fit together."""

    def __init__(self, part):
        super().__init__(f"does not fit with the rest: {named(part)}")
        self.part = part


class TooMany(StoneError):
    """There are more than the most that may be."""

    def __init__(self, what, most):
        super().__init__(f"more than may be: {named(what)}")
        self.what = what
        self.most = most


class BadText(StoneError):
    """An item of a text cannot stand where it stands; the line is always 0."""

    def __init__(self, line, item):
        super().__init__("an item of the text cannot stand")
        self.line = line
        self.item = item
