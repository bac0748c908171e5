"""Floors: cells of the square lattice that hang together."""

from fourstones.checks import is_cell
from fourstones.demands import demand_cell, demand_within
from fourstones.errors import BadFloor, BadText, Misfit, TooMany

NORTH = 0
SOUTH = 2
STEPS = ((0, 1), (1, 0), (0, -1), (-1, 0))
MOST_CELLS = 400
MOST_ROWS = 400


def neighbour(cell, side):
    """The next cell of the lattice at this side."""
    x, y = cell
    right, up = STEPS[side]
    return (x + right, y + up)


def are_unlike_cells(value, least, most):
    """Whether the value is a list of so many cells, no two of them alike."""
    if not isinstance(value, (list, tuple)) or not least <= len(value) <= most:
        return False
    if not all([is_cell(cell) for cell in value]):
        return False
    return len({tuple(cell) for cell in value}) == len(value)


def lot_around(start, places):
    """The places, keys of a dict, that hang together with start, ascending."""
    found = {start: True}
    waiting = [start]
    while waiting:
        cell = waiting.pop()
        for side in range(4):
            near = neighbour(cell, side)
            if near in places and near not in found:
                found[near] = True
                waiting.append(near)
    return tuple(sorted(list(found)))


def lots_among(cells):
    """The lots of these cells, which are tuples; they may be more than a floor has."""
    places = {cell: True for cell in cells}
    told = {}
    lots = []
    for start in sorted(list(places)):
        if start not in told:
            lot = lot_around(start, places)
            lots.append(lot)
            told.update({cell: True for cell in lot})
    return tuple(lots)


def moved_to_corner(cells):
    """The cells moved so that the least x and the least y are 0, ascending."""
    west = min([x for x, y in cells])
    south = min([y for x, y in cells])
    return tuple(sorted([(x - west, y - south) for x, y in cells]))


def check_rows(rows):
    """Raises BadText for the first row that cannot stand behind those ahead of it."""
    many = 0
    for at, row in enumerate(rows):
        cells = row.count("#")
        many += cells
        formed = row != "" and len(row) == cells + row.count(".")
        if not formed or len(row) != len(rows[0]) or at >= MOST_ROWS or many > MOST_CELLS:
            raise BadText(0, at)


def cells_in(rows):
    """The cells that the rows show, the last row lying at y = 0."""
    top = len(rows) - 1
    return [(x, top - at) for at, row in enumerate(rows) for x, sign in enumerate(row) if sign == "#"]


class Floor:
    """1 to 400 cells that hang together, moved so that the least x and the least y are 0."""

    def __init__(self, cells):
        if not are_unlike_cells(cells, 1, MOST_CELLS):
            raise BadFloor("cells")
        places = [tuple(cell) for cell in cells]
        if len(lots_among(places)) != 1:
            raise Misfit("cells")
        self.cells = moved_to_corner(places)
        self.width = 1 + max([x for x, y in self.cells])
        self.height = 1 + max([y for x, y in self.cells])
        self._held = {cell: True for cell in self.cells}

    def __eq__(self, other):
        return isinstance(other, Floor) and self.cells == other.cells

    def __str__(self):
        rows = []
        for y in range(self.height - 1, -1, -1):
            rows.append("".join(["#" if (x, y) in self._held else "." for x in range(self.width)]))
        return " ".join(rows)

    @staticmethod
    def read(text):
        """The floor whose text this is."""
        if not isinstance(text, str):
            raise BadText(0, 0)
        rows = text.split(" ")
        check_rows(rows)
        cells = cells_in(rows)
        last = len(rows) - 1
        if len(lots_among(cells)) != 1:
            raise BadText(0, last)
        floor = Floor(cells)
        # A row or a column at the rim without a cell is lost when the cells are moved.
        if str(floor) != text:
            raise BadText(0, last)
        return floor

    def has(self, cell):
        """Whether the cell is one of the floor."""
        demand_cell(cell, "cell")
        return tuple(cell) in self._held

    def beside(self, cell, side):
        """The neighbour of a cell of the floor, None if it is none of the floor."""
        demand_cell(cell, "cell")
        demand_within(side, 0, 3, "side")
        if tuple(cell) not in self._held:
            raise Misfit("cell")
        return self.near(cell, side)

    def near(self, cell, side):
        """As beside, for a cell and a side that are right: nothing is checked, as walks ask for it often."""
        place = neighbour(cell, side)
        return place if place in self._held else None


def demand_floor(value, part):
    """Raises BadFloor(part) for no floor."""
    if not isinstance(value, Floor):
        raise BadFloor(part)


def demand_within_floor(floor, cell, part):
    """Raises Misfit(part) for a cell that is none of the floor."""
    if not floor.has(cell):
        raise Misfit(part)


def lots_of(cells):
    """The lots of the cells that hang together, ascending by their first cells."""
    if not are_unlike_cells(cells, 0, MOST_CELLS):
        raise BadFloor("cells")
    return lots_among([tuple(cell) for cell in cells])


def turned_floor(floor, quarters):
    """The floor turned by so many quarters, from north towards east."""
    demand_floor(floor, "floor")
    demand_within(quarters, 0, 3, "quarters")
    cells = floor.cells
    for _ in range(quarters):
        cells = [(y, -x) for x, y in cells]
    return Floor(cells)


def mirrored_floor(floor):
    """The floor with east and west exchanged."""
    demand_floor(floor, "floor")
    return Floor([(-x, y) for x, y in floor.cells])


def joined_floor(one, other, shift):
    """One floor, and the cells of the other one moved by the shift."""
    demand_floor(one, "one")
    demand_floor(other, "other")
    demand_cell(shift, "shift")
    right, up = shift
    moved = [(x + right, y + up) for x, y in other.cells]
    both = [*one.cells, *moved]
    if len(set(both)) < len(both) or len(lots_among(both)) != 1:
        raise Misfit("shift")
    if len(both) > MOST_CELLS:
        raise TooMany("cells", MOST_CELLS)
    return Floor(both)
