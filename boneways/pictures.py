"""Cells and pictures (points 1.1 to 1.4): the black cells of a floor without end."""

from boneways.values import is_ascending, is_whole

# From the right one on, against the clock: the numbers of a round (3.1) are indexes here.
NEAR_STEPS = ((1, 0), (1, 1), (0, 1), (-1, 1), (-1, 0), (-1, -1), (0, -1), (1, -1))
SIDE_STEPS = ((1, 0), (0, 1), (-1, 0), (0, -1))


def is_cell(value):
    """Whether any value is a pair of integers."""
    return isinstance(value, tuple) and len(value) == 2 and is_whole(value[0]) and is_whole(value[1])


def is_picture(value):
    """Whether any value is an ascending tuple of unlike cells."""
    return isinstance(value, tuple) and all(is_cell(cell) for cell in value) and is_ascending(value)


def picture_of(cells):
    """The picture of the cells of a list, each once."""
    return tuple(sorted(set(cells)))


def cell_table(cells):
    """The cells as the keys of a dict, in which they are quickly found."""
    return {cell: True for cell in cells}


def side_cells(cell):
    """The four cells side by side with a cell."""
    x, y = cell
    return tuple((x + dx, y + dy) for dx, dy in SIDE_STEPS)


def near_cells(cell):
    """The eight cells near a cell."""
    x, y = cell
    return tuple((x + dx, y + dy) for dx, dy in NEAR_STEPS)


def united(one, other):
    """The cells that are black in one of two pictures."""
    return tuple(sorted(set(one) | set(other)))


def shared(one, other):
    """The cells that are black in both pictures."""
    return tuple(sorted(set(one) & set(other)))


def taken_out(one, other):
    """The cells that are black in one and not in other."""
    return tuple(sorted(set(one) - set(other)))


def unlike_cells(one, other):
    """The cells that are black in just one of two pictures."""
    return tuple(sorted(set(one) ^ set(other)))


def lies_in(one, other):
    """Whether each black cell of one is black in other."""
    return len(set(one) - set(other)) == 0


def flipped(picture, cell):
    """The picture with this one cell of the other colour."""
    return unlike_cells(picture, (cell,))


def box_of(picture):
    """The least and the greatest x and y of the cells, None for ()."""
    if len(picture) == 0:
        return None
    heights = [cell[1] for cell in picture]
    return (picture[0][0], min(heights), picture[-1][0], max(heights))


def within_box(picture):
    """The white cells of the box."""
    if len(picture) == 0:
        return ()
    black = cell_table(picture)
    x0, y0, x1, y1 = box_of(picture)
    return tuple((x, y) for x in range(x0, x1 + 1) for y in range(y0, y1 + 1) if (x, y) not in black)


def shifted(picture, dx, dy):
    """The picture with all cells moved alike."""
    return tuple((x + dx, y + dy) for x, y in picture)


def quarter_turned(picture, k):
    """The picture with each cell (x, y) led to (-y, x), k times."""
    cells = list(picture)
    for _ in range(k % 4):
        cells = [(-y, x) for x, y in cells]
    return picture_of(cells)


def mirrored(picture):
    """The picture with each cell (x, y) led to (-x, y)."""
    return picture_of([(-x, y) for x, y in picture])


def posed(picture, t):
    """The picture in the turn number t, from 0 to 7."""
    if t >= 4:
        return quarter_turned(mirrored(picture), t)
    return quarter_turned(picture, t)


def at_home(picture):
    """The picture shifted so that its box begins with 0, 0."""
    if len(picture) == 0:
        return ()
    x0, y0 = box_of(picture)[:2]
    return shifted(picture, -x0, -y0)


def poses(picture):
    """The unlike pictures that the eight turns are at home, ascending."""
    return tuple(sorted(set([at_home(posed(picture, t)) for t in range(8)])))


def least_pose(picture):
    """The least of the poses."""
    return poses(picture)[0]


def shift_between(one, other):
    """The pair (dx, dy) by which one is shifted to other, None if none does."""
    if len(one) != len(other):
        return None
    if len(one) == 0:
        return (0, 0)
    dx = other[0][0] - one[0][0]
    dy = other[0][1] - one[0][1]
    return (dx, dy) if shifted(one, dx, dy) == other else None


def pose_between(one, other):
    """The least (t, dx, dy) that leads one to other: turned, then shifted; None if none does."""
    for t in range(8):
        shift = shift_between(posed(one, t), other)
        if shift is not None:
            return (t, shift[0], shift[1])
    return None


def blown(picture, k):
    """The picture in which each cell stands for k by k cells."""
    return picture_of([(k * x + i, k * y + j) for x, y in picture for i in range(k) for j in range(k)])


def unblown(picture, k):
    """The picture of which this one is blown, None if there is none."""
    found = tuple((x // k, y // k) for x, y in picture if x % k == 0 and y % k == 0)
    # Counted first, so that nothing great is blown up in vain.
    if len(found) * k * k != len(picture) or blown(found, k) != picture:
        return None
    return found


def apart(one, other):
    """Whether no cell of one is a cell of other or near one."""
    black = cell_table(other)
    return not any(near in black for cell in one for near in (cell, *near_cells(cell)))


def beside(one, other):
    """Other, moved so that it begins one free column right of one, as low as it."""
    x0, y0, x1 = box_of(one)[:3]
    x, y = box_of(other)[:2]
    return shifted(other, x1 + 2 - x, y0 - y)
