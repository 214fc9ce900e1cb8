"""Rims (points 10.1 to 10.5): the rows of sides between black and white, and pictures told by them.

A side is a pair (corner, direction); directions are numbered as SIDE_STEPS.
"""

from boneways.pictures import SIDE_STEPS, box_of, cell_table, is_cell, picture_of
from boneways.pieces import OUTSIDE, least_told, place_of, twice_fault
from boneways.tree import children_of
from boneways.values import is_ascending, is_whole_to

# By direction: where the cells to the left and to the right of a side lie, seen from its corner.
LEFT_CELLS = ((0, 0), (-1, 0), (-1, -1), (0, -1))
RIGHT_CELLS = ((0, -1), (0, 0), (-1, 0), (-1, -1))


def left_cell(side):
    """The cell to the left of a side."""
    (x, y), d = side
    dx, dy = LEFT_CELLS[d]
    return (x + dx, y + dy)


def right_cell(side):
    """The cell to the right of a side."""
    (x, y), d = side
    dx, dy = RIGHT_CELLS[d]
    return (x + dx, y + dy)


def is_side_in(black, side):
    """Whether a side is one of the picture whose black cells a table has."""
    return left_cell(side) in black and right_cell(side) not in black


def picture_sides(picture):
    """The ascending tuple of all sides of the picture."""
    black = cell_table(picture)
    corners = [((x - dx, y - dy), d) for x, y in picture for d, (dx, dy) in enumerate(LEFT_CELLS)]
    return tuple(sorted([side for side in corners if is_side_in(black, side)]))


def end_of(side):
    """The corner at which a side ends."""
    (x, y), d = side
    dx, dy = SIDE_STEPS[d]
    return (x + dx, y + dy)


def next_in(black, side):
    """The side that begins where this one ends, among the black cells of a table."""
    corner = end_of(side)
    # To the right, straight on, to the left.
    turns = [(corner, (side[1] + turn) % 4) for turn in (3, 0, 1)]
    return [each for each in turns if is_side_in(black, each)][0]


def next_side(picture, side):
    """The side of the picture that begins where this one ends."""
    return next_in(cell_table(picture), side)


def sides_from(black, side):
    """The list of the sides through which one goes from this one on, till it comes again."""
    sides = [side]
    following = next_in(black, side)
    while following != side:
        sides.append(following)
        following = next_in(black, following)
    return sides


def rim_of_sides(sides):
    """The rim of a list of sides that follow one another, begun at any of them."""
    at = sides.index(min(sides))
    word = [d for _, d in sides]
    return (sides[at][0], tuple(word[at:] + word[:at]))


def rim_through(picture, side):
    """The rim that has this side."""
    return rim_of_sides(sides_from(cell_table(picture), side))


def rims(picture):
    """The ascending tuple of all rims."""
    black = cell_table(picture)
    seen = {}
    found = []
    for side in picture_sides(picture):
        if side not in seen:
            sides = sides_from(black, side)
            for each in sides:
                seen[each] = True
            found.append(rim_of_sides(sides))
    return tuple(found)


def rim_sides(rim):
    """The tuple of the sides of a rim, in order."""
    corner, word = rim
    sides = []
    for d in word:
        sides.append((corner, d))
        corner = end_of(sides[-1])
    return tuple(sides)


def rim_length(rim):
    """How many sides a rim has."""
    return len(rim[1])


def rim_box(rim):
    """The least and the greatest x and y of the corners of a rim."""
    return box_of(picture_of([corner for corner, _ in rim_sides(rim)]))


def rim_area(rim):
    """The sum of y for each side of direction 2, and of less y for each of direction 0."""
    heights = {0: -1, 1: 0, 2: 1, 3: 0}
    return sum(heights[d] * y for (_, y), d in rim_sides(rim))


def turns_in(word):
    """The tuple of the turn behind each direction of a word: 1 to the left, 0 straight on, -1 to the right."""
    return tuple((after - before + 1) % 4 - 1 for before, after in zip(word, word[1:] + word[:1]))


def rim_turns(rim):
    """How many more turns to the left than to the right there are, going round once."""
    turns = turns_in(rim[1])
    return turns.count(1) - turns.count(-1)


def is_outer(rim):
    """Whether the area of a rim is above 0."""
    return rim_area(rim) > 0


def row_changes(value):
    """The dict, for each y, of the dict of how many more sides fall than rise at each x."""
    rows = {}
    for rim in value:
        for side in rim_sides(rim):
            # A side that falls belongs to the row of its end, one that rises to that of its beginning.
            x, y = end_of(side) if side[1] == 3 else side[0]
            if side[1] in (1, 3):
                row = rows.setdefault(y, {})
                row[x] = row.get(x, 0) + (1 if side[1] == 3 else -1)
    return rows


def row_counts(value):
    """The list of (y, x, end, count): how many more sides fall than rise up to the cells of row y from x to end."""
    told = []
    for y, row in row_changes(value).items():
        xs = sorted(row)
        count = 0
        # As many sides rise as fall in each row, so that nothing goes on behind the last one.
        for x, end in zip(xs, xs[1:]):
            count += row[x]
            told.append((y, x, end, count))
    return told


def picture_of_rims(value):
    """The picture of the cells up to which more sides fall than rise, in their row."""
    return picture_of([(i, y) for y, x, end, count in row_counts(value) if count > 0 for i in range(x, end)])


def is_rim_form(value):
    """Whether any value is a pair of a corner and a tuple of directions, not ()."""
    if not (isinstance(value, tuple) and len(value) == 2 and is_cell(value[0])):
        return False
    word = value[1]
    return isinstance(word, tuple) and len(word) > 0 and all(is_whole_to(d, 3) for d in word)


def sequence_fault(value):
    """The fault that a rim begins wrongly, or that the rims do not ascend, None if all is right."""
    for k, rim in enumerate(value):
        sides = rim_sides(rim)
        if min(sides) != sides[0]:
            return ("begin", k)
    return None if is_ascending(value) else ("sequence",)


def cell_fault(value):
    """The fault that up to a cell fewer sides fall than rise, or more by two or more, None if all is right."""
    return least_told("cell", sorted([(x, y) for y, x, _, count in row_counts(value) if count not in (0, 1)]))


def side_fault(black, value):
    """The fault that a side is none of the picture whose black cells a table has, None if all are."""
    sides = sorted([side for rim in value for side in rim_sides(rim)])
    return least_told("side", [side for side in sides if not is_side_in(black, side)])


def turn_fault(black, value):
    """The fault that behind a side comes another one than in the picture, None if all is right."""
    for k, rim in enumerate(value):
        sides = rim_sides(rim)
        for t, (side, following) in enumerate(zip(sides, sides[1:] + sides[:1])):
            if next_in(black, side) != following:
                return ("turn", k, t)
    return None


def judge_rims(value):
    """None if any value is the rims of some picture, else the first fault."""
    if not (isinstance(value, tuple) and all(is_rim_form(rim) for rim in value)):
        return ("form",)
    for k, (_, word) in enumerate(value):
        if word.count(0) != word.count(2) or word.count(1) != word.count(3):
            return ("open", k)
    fault = twice_fault([rim_sides(rim) for rim in value]) or sequence_fault(value) or cell_fault(value)
    if fault is not None:
        return fault
    black = cell_table(picture_of_rims(value))
    return side_fault(black, value) or turn_fault(black, value)


def place_side(place):
    """The side at the left of the least cell of a piece or hole, which is one of its rim."""
    x, y = place[1]
    return ((x, y + 1), 3) if place[0] == "piece" else ((x, y), 1)


def rim_of_piece(picture, cell):
    """The outer rim of the piece of a black cell."""
    return rim_through(picture, place_side(place_of(picture, cell)))


def rims_of_piece(picture, cell):
    """The ascending tuple of the outer rim of the piece of a black cell, and the rims of the holes in it."""
    place = place_of(picture, cell)
    places = [place, *children_of(picture, place)]
    return tuple(sorted([rim_through(picture, place_side(each)) for each in places]))


def rim_of_hole(picture, cell):
    """The rim of the hole in which a white cell lies, None if it lies outside."""
    place = place_of(picture, cell)
    return None if place == OUTSIDE else rim_through(picture, place_side(place))


def rim_about(picture, k):
    """The number of the rim that lies next about rim number k, None if none does."""
    every = rims(picture)
    side = (every[k][0], every[k][1][0])
    # About a piece lies the hole outside of its rim, about a hole the piece on whose rim it is.
    place = place_of(picture, right_cell(side) if is_outer(every[k]) else left_cell(side))
    return None if place == OUTSIDE else every.index(rim_through(picture, place_side(place)))
