"""What several tests use: wrong values, floors of many kinds, and walks told by other means than the program's."""

import random

from fourstones.floors import Floor
from fourstones.papers import Denial, Paper

# Values that are no floor, no cell, no wall and no integer.
ODD = (None, True, False, "", "text", "##", b"##", [], (), {}, [None], 1.5, object(), Floor, len)
SHIFTS = {0: (0, 1), 1: (1, 0), 2: (0, -1), 3: (-1, 0)}


def told_error(call, *args, **named):
    """The class name and the fields of the error that the call raises, None if it raises none."""
    try:
        call(*args, **named)
    except ValueError as error:
        return (type(error).__name__, *vars(error).values())
    return None


def told_error_of(generator, *args, **named):
    """The same for a generator that is asked for its first value."""
    return told_error(lambda: list(generator(*args, **named))[:1])


def namesake(name, paper):
    """A paper of another class that has the name, but the word, the parts and the attributes of this one."""
    made = type(name, (Denial if isinstance(paper, Denial) else Paper,), {})(paper.word, *paper.parts)
    vars(made).update(vars(paper))
    return made


def floors_up_to(many):
    """All floors of at most so many cells."""
    found = {frozenset([(0, 0)])}
    every = set(found)
    for _ in range(many - 1):
        found = {
            frozenset(Floor([*cells, (x + right, y + up)]).cells)
            for cells in found
            for x, y in cells
            for right, up in SHIFTS.values()
            if (x + right, y + up) not in cells
        }
        every |= found
    return [Floor(sorted(cells)) for cells in sorted(every, key=sorted)]


def grown_floor(seed, many, spread=1):
    """A floor that grew cell by cell; with a spread below 1 it grows into branches and leaves pillars."""
    chance = random.Random(seed)
    cells = [(0, 0)]
    while len(cells) < many:
        x, y = cells[-1] if chance.random() > spread else chance.choice(cells)
        right, up = SHIFTS[chance.randrange(4)]
        if (x + right, y + up) not in cells:
            cells.append((x + right, y + up))
        elif spread < 1:
            cells.append(cells.pop(chance.randrange(len(cells))))
    return Floor(cells)


def bored_floor(seed, width, height, holes):
    """A full floor in which cells were taken away as long as the rest hangs together; its edge stays if seed is odd."""
    chance = random.Random(seed)
    cells = {(x, y) for x in range(width) for y in range(height)}
    inner = [(x, y) for x, y in sorted(cells) if 0 < x < width - 1 and 0 < y < height - 1]
    for _ in range(holes):
        rest = cells - {chance.choice(inner if seed % 2 else sorted(cells))}
        if rest and len(pieces_by(sorted(rest), rest, corners=False)) == 1:
            cells = rest
    return Floor(sorted(cells))


def pieces_by(order, cells, corners):
    """The pieces of some cells that touch at sides, or at corners too, in the order of their first cells."""
    steps = [(a, b) for a in (-1, 0, 1) for b in (-1, 0, 1) if (a, b) != (0, 0) and (corners or 0 in (a, b))]
    left, pieces = set(cells), []
    for start in order:
        if start in left:
            left.discard(start)
            piece, waiting = {start}, [start]
            while waiting:
                x, y = waiting.pop()
                for right, up in steps:
                    near = (x + right, y + up)
                    if near in left:
                        left.discard(near)
                        piece.add(near)
                        waiting.append(near)
            pieces.append(piece)
    return pieces


def outside_of(floor):
    """The pieces of what is no floor, as far as they lie near it; the endless one is first."""
    cells = set(floor.cells)
    around = [
        (x, y)
        for x in range(-1, floor.width + 1)
        for y in range(-1, floor.height + 1)
        if (x, y) not in cells
    ]
    return pieces_by(around, around, corners=True)


def beyond(wall):
    """The cell beyond a wall."""
    x, y, side = wall
    return (x + SHIFTS[side][0], y + SHIFTS[side][1])


def seen_walls(floor):
    """All walls of the floor, by the cells alone."""
    cells = set(floor.cells)
    return sorted((x, y, side) for x, y in cells for side in SHIFTS if beyond((x, y, side)) not in cells)


def rims_by_pieces(floor):
    """The walls of each piece of what is no floor, the endless one first."""
    walls = seen_walls(floor)
    return [sorted(wall for wall in walls if beyond(wall) in piece) for piece in outside_of(floor)]


def walked_on(floor, wall):
    """The wall to which on leads, and the turn: a walker with the wall at the left hand, told by places alone."""
    cells = set(floor.cells)
    x, y, side = wall
    left = SHIFTS[side]
    ahead = (left[1], -left[0])
    sides = {shift: number for number, shift in SHIFTS.items()}
    if (x + ahead[0], y + ahead[1]) not in cells:
        return (x, y, sides[ahead]), 1
    x, y = x + ahead[0], y + ahead[1]
    if (x + left[0], y + left[1]) not in cells:
        return (x, y, side), 0
    x, y = x + left[0], y + left[1]
    return (x, y, sides[(-ahead[0], -ahead[1])]), -1


def crowns_by_pieces(floor):
    """For each pillar, by the cells beyond its walls, its crown, and the north wall of the crown's run."""
    cells = set(floor.cells)
    told = {}
    for rim in rims_by_pieces(floor)[1:]:
        x, y, side = min((wall for wall in rim if wall[2] == 2), key=lambda wall: (-wall[1], wall[0]))
        top = y
        while (x, top + 1) in cells:
            top += 1
        told[(x, y, side)] = (x, top, 0)
    return told


def ring_by_pieces(floor, wall):
    """The ring from this wall on, by walker and pieces alone."""
    over = {}
    for crown, top in crowns_by_pieces(floor).items():
        over[crown] = top
        over[top] = crown
    ring = []
    place = tuple(wall)
    while not ring or place != ring[0]:
        ring.append(place)
        place = walked_on(floor, over.get(place, place))[0]
    return ring


def bar(many):
    """A floor of one row."""
    return [(x, 0) for x in range(many)]


def square_ring(many):
    """The cells round a square whose edge is so many cells long."""
    edge = (0, many - 1)
    return [(x, y) for x in range(many) for y in range(many) if x in edge or y in edge]


def comb(teeth, length):
    """A bar with teeth that point to the south."""
    return [(x, 0) for x in range(2 * teeth - 1)] + [(2 * x, -y) for x in range(teeth) for y in range(1, length + 1)]


def lattice(many):
    """A square of so many rows with a pillar of one cell at each second place of each second row."""
    return [(x, y) for x in range(many) for y in range(many) if not (x % 2 and y % 2)]


GREAT = {
    "bar": bar(400),
    "column": [(0, y) for y in range(400)],
    "ring": square_ring(101),
    "comb": comb(40, 8)[:400],
    "comb to the west": [(y, x) for x, y in comb(40, 8)[:400]],
    "square": [(x, y) for x in range(20) for y in range(20)],
    "lattice": lattice(23)[:400],
    "stairs": [(x // 2, (x + 1) // 2) for x in range(400)],
}


def some_floors():
    """Floors with and without pillars, one above another and within one another."""
    texts = (
        "#", "##", "# #", "#. ##", "### #.# ###", "### #.# ### #.# ###", "##### #...# #.#.# #.### #####",
        "#### #..# ####", "##### #.#.# #####", "###. #.## ##.# .###", "#### #.## ##.# ####", ".### #.## ####",
        "####### #..#..# #.###.# #.#.#.# #######", "##### #..## #.### ##..# #####", "##### #.#.# #...# #####",
        "####### #.....# #.###.# #.#.#.# #.###.# #...#.# #######", "###### #....# #.##.# #.##.# #..#.# ######",
        "###### ##.#.# ####.# #....# ######",
        "######### #.......# #.#####.# #.#...### #.#.###.# #.#...#.# #.#####.# #.......# #########",
    )
    floors = [Floor.read(text) for text in texts]
    floors += [grown_floor(seed, 5 + 4 * seed, 1 if seed % 2 else 0.4) for seed in range(12)]
    floors += [bored_floor(seed, 4 + seed % 6, 4 + seed % 4, 2 * seed) for seed in range(16)]
    return floors
