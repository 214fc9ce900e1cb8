"""Pieces of one cell moved, and pictures without holes led into one another (points 11.3 to 11.5)."""

from boneways.changes import behind_row, contrary, shrink_row, shrunk, two_led
from boneways.pictures import box_of, cell_table, near_cells, united
from boneways.pieces import pieces
from boneways.simple import judge_changes


def step_row(cell, other):
    """The row by which a piece of one cell steps to a near cell."""
    return ((other, 1), (cell, 0))


def free_cells(picture, cell, room):
    """The table of the cells of a room that are neither black nor near a black cell, but for this one."""
    barred = cell_table([each for black in picture if black != cell for each in (black, *near_cells(black))])
    x0, y0, x1, y1 = room
    inside = [(x, y) for x in range(x0, x1 + 1) for y in range(y0, y1 + 1)]
    return cell_table([each for each in inside if each not in barred])


def step_counts(free, to):
    """The dict of the least number of near steps to a cell from each cell of a table that is led there within it."""
    counts = {}
    level = [to] if to in free else []
    many = 0
    while level:
        for cell in level:
            counts[cell] = many
        many += 1
        level = sorted({near for each in level for near in near_cells(each) if near in free and near not in counts})
    return counts


def free_way(picture, cell, to, room):
    """The least of the shortest ways of a piece of one cell through a room, apart from all else; None if none is."""
    counts = step_counts(free_cells(picture, cell, room), to)
    if cell not in counts:
        return None
    way = [cell]
    while way[-1] != to:
        left = counts[way[-1]] - 1
        way.append(min([near for near in near_cells(way[-1]) if counts.get(near) == left]))
    return tuple(way)


def way_row(way):
    """The row of the steps of a way."""
    return tuple(change for cell, other in zip(way, way[1:]) for change in step_row(cell, other))


def bent_way(cell, to):
    """The way from a cell to the right, as far as the other one's column, and then up or down to it."""
    x, y = cell
    end, level = to
    across = [(i, y) for i in range(x, end + 1)]
    up = [(end, j) for j in range(y + 1, level + 1)]
    down = [(end, j) for j in reversed(range(level, y))]
    return tuple(across + up + down)


def line_row(picture, x, y):
    """The row that leads single cells to (x, y), (x + 2, y), .., the greatest one first, to the farthest place."""
    row = []
    for number in reversed(range(len(picture))):
        row.extend(way_row(bent_way(picture[number], (x + 2 * number, y))))
    return tuple(row)


def line_up(picture, x):
    """The row that leads single cells to (x, 0), (x + 2, 0) and so on."""
    return line_row(picture, x, 0)


def led(one, other):
    """A row that leads one picture without holes to other, None if they have not as many pieces."""
    if len(pieces(one)) != len(pieces(other)):
        return None
    if len(one) == 0:
        return ()
    # Not far from both pictures, wherever these are.
    y, x = box_of(united(one, other))[1:3]
    lines = [shrink_row(picture) + line_row(shrunk(picture), x + 2, y) for picture in (one, other)]
    return two_led(contrary(lines[0]), contrary(lines[1]))


def judge_led(one, other, value):
    """None if any value is a row that leads one picture to other, else the first fault."""
    fault = judge_changes(one, value)
    if fault is not None:
        return fault
    if isinstance(value, list):
        return ("form",)
    return None if behind_row(one, value) == other else ("ends",)
