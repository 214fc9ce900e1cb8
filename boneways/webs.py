"""Bones as webs (points 8.1 to 8.4): ties, squares, knots and ways of thin pictures, and what they bound."""

from boneways.pictures import NEAR_STEPS, cell_table, is_cell, is_picture, picture_of
from boneways.pieces import pieces, place_of
from boneways.values import is_ascending


def tied_in(black, cell):
    """The ascending tuple of the cells to which a black cell of a table is tied."""
    x, y = cell
    tied = []
    for dx, dy in NEAR_STEPS:
        is_side = dx == 0 or dy == 0
        if (x + dx, y + dy) in black and (is_side or ((x + dx, y) not in black and (x, y + dy) not in black)):
            tied.append((x + dx, y + dy))
    return picture_of(tied)


def tied_to(picture, cell):
    """The ascending tuple of the cells to which a black cell is tied."""
    return tied_in(cell_table(picture), cell)


def tie_table(picture):
    """The dict of the cells to which each black cell is tied."""
    black = cell_table(picture)
    return {cell: tied_in(black, cell) for cell in picture}


def ties(picture):
    """The ascending tuple of the pairs of tied cells, the lesser one first."""
    table = tie_table(picture)
    return tuple((cell, other) for cell in picture for other in table[cell] if cell < other)


def is_square_at(black, cell):
    """Whether all four cells of the square with this least cell stand in a table."""
    x, y = cell
    return all([each in black for each in (cell, (x, y + 1), (x + 1, y), (x + 1, y + 1))])


def squares(picture):
    """The ascending tuple of the least cells of the squares of two by two black cells."""
    black = cell_table(picture)
    return tuple(cell for cell in picture if is_square_at(black, cell))


def is_thin(picture):
    """Whether a picture has no squares."""
    return len(squares(picture)) == 0


def knots_of(picture, table):
    """The ascending tuple of the knots of a thin picture, whose ties a table has."""
    knots = [cell for cell in picture if len(table[cell]) != 2]
    rings = [piece[0] for piece in pieces(picture) if all([len(table[cell]) == 2 for cell in piece])]
    return picture_of(knots + rings)


def way_from(table, knots, knot, cell):
    """The way that begins with a knot and a cell tied to it, written in the lesser direction."""
    way = [knot, cell]
    while way[-1] not in knots:
        one, other = table[way[-1]]
        way.append(other if one == way[-2] else one)
    return min(tuple(way), tuple(way[::-1]))


def web_of(picture):
    """The web of a thin picture: the pair of its knots and its ways, both ascending."""
    table = tie_table(picture)
    knots = knots_of(picture, table)
    ends = cell_table(knots)
    # Each way is come upon from both ends.
    ways = sorted({way_from(table, ends, knot, cell) for knot in knots for cell in table[knot]})
    return (knots, tuple(ways))


def cells_of_web(web):
    """The picture of all cells of a web."""
    knots, ways = web
    return picture_of([*knots, *[cell for way in ways for cell in way]])


def has_web_form(value):
    """Whether any value is a pair of ascending tuples of cells, and of tuples of two or more cells."""
    if not (isinstance(value, tuple) and len(value) == 2):
        return False
    knots, ways = value
    if not (is_picture(knots) and isinstance(ways, tuple)):
        return False
    for way in ways:
        if not (isinstance(way, tuple) and len(way) >= 2 and all([is_cell(cell) for cell in way])):
            return False
    return is_ascending(ways)


def judge_web(picture, value):
    """None if any value is the web of a thin picture, else the first fault."""
    if not has_web_form(value):
        return ("form",)
    knots, ways = web_of(picture)
    unlike = sorted(set(knots) ^ set(value[0]))
    if len(unlike) > 0:
        return ("knot", unlike[0])
    for k, way in enumerate(value[1]):
        if way not in ways:
            return ("way", k)
    lacking = [way for way in ways if way not in value[1]]
    return ("lacks", lacking[0]) if len(lacking) > 0 else None


def branches(web, knot):
    """How many ends of ways a knot has."""
    return [end for way in web[1] for end in (way[0], way[-1])].count(knot)


def kinds_of_knots(web):
    """How many knots have no branch, one, two, three or more."""
    counts = [0, 0, 0, 0]
    for knot in web[0]:
        counts[min(branches(web, knot), 3)] += 1
    return tuple(counts)


def web_pieces(web):
    """How many lots the knots fall into, joined by ways."""
    knots, ways = web
    names = {knot: k for k, knot in enumerate(knots)}
    many = len(knots)
    for way in ways:
        kept, lost = names[way[0]], names[way[-1]]
        if kept != lost:
            many -= 1
            names = {knot: kept if names[knot] == lost else names[knot] for knot in knots}
    return many


def loops(web):
    """The number of ways, less that of knots, plus that of pieces."""
    knots, ways = web
    return len(ways) - len(knots) + web_pieces(web)


def cells_beside(one, other):
    """The pair of the lists of the cells on the left and on the right of a tie, seen from one to other."""
    x, y = one
    dx, dy = other[0] - x, other[1] - y
    if dx == 0 or dy == 0:
        return ([(x - dy, y + dx), (x + dx - dy, y + dy + dx)], [(x + dy, y - dx), (x + dx + dy, y + dy - dx)])
    level, upright = (x + dx, y), (x, y + dy)
    return ([upright], [level]) if dx == dy else ([level], [upright])


def room_name(picture, cells):
    """The least cell of the hole in which the white ones of some cells lie, None for the outside."""
    white = [cell for cell in cells if cell not in picture]
    place = place_of(picture, white[0])
    return place[1] if place[0] == "hole" else None


def sides(picture, way):
    """The rooms on the left and on the right of a way: None for the outside, or a hole's least cell."""
    # They are the same along all ties of a way.
    left, right = cells_beside(way[0], way[1])
    return (room_name(picture, left), room_name(picture, right))


def is_bridge(picture, way):
    """Whether one room is on both sides of a way."""
    left, right = sides(picture, way)
    return left == right
