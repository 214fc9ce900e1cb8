"""Rows of changes (points 11.1, 11.2 and 11.6): done, led back, shrinking, and the pictures around one."""

from boneways.pictures import box_of, cell_table, united, unlike_cells
from boneways.simple import all_changes, changed, is_simple_in


def behind_row(picture, row):
    """The picture behind all changes of a row."""
    black = cell_table(picture)
    for cell, kind in row:
        if kind == 1:
            black[cell] = True
        else:
            del black[cell]
    return tuple(sorted(black))


def pictures_of(picture, row):
    """The tuple of the pictures ahead of the first change of a row and behind each."""
    pictures = [picture]
    for change in row:
        pictures.append(changed(pictures[-1], change))
    return tuple(pictures)


def contrary(row):
    """The row of the contrary changes in the contrary order, which leads back."""
    return tuple((cell, 1 - kind) for cell, kind in row[::-1])


def two_led(one, other):
    """The row that leads from behind one row to behind the other, both done to one picture."""
    alike = 0
    while alike < min(len(one), len(other)) and one[alike] == other[alike]:
        alike += 1
    return contrary(one[alike:]) + other[alike:]


def shrink_row(picture):
    """The row that strikes the least simple cell, as long as there is one."""
    return shrink_by(picture, picture)


def shrunk(picture):
    """The picture behind its row of shrinking."""
    return behind_row(picture, shrink_row(picture))


def shrink_by(picture, order):
    """The row that strikes the first simple cell of an order, as long as there is one."""
    black = cell_table(picture)
    row = []
    cell = first_simple(black, order)
    while cell is not None:
        del black[cell]
        row.append((cell, 0))
        cell = first_simple(black, order)
    return tuple(row)


def first_simple(black, order):
    """The first cell of an order that is simple among the black cells of a table, None if none is."""
    for cell in order:
        if cell in black and is_simple_in(black, cell):
            return cell
    return None


def wide_box(picture):
    """The box of a picture with black cells, made greater by one cell each way."""
    x0, y0, x1, y1 = box_of(picture)
    return (x0 - 1, y0 - 1, x1 + 1, y1 + 1)


def stands_in(cell, box):
    """Whether a cell stands in a box."""
    x, y = cell
    x0, y0, x1, y1 = box
    return x0 <= x <= x1 and y0 <= y <= y1


def pictures_next(picture, box):
    """The list of the pictures behind each change of a cell of a box."""
    return [changed(picture, change) for change in all_changes(picture) if stands_in(change[0], box)]


def next_level(level, found, box):
    """The ascending list of the pictures behind one change of a cell of a box that are not found yet."""
    return sorted({each for picture in level for each in pictures_next(picture, box) if each not in found})


def near_pictures(picture, k):
    """The ascending tuple of the pictures to which k changes or fewer lead, within the box and one cell around."""
    if len(picture) == 0:
        return ((),)
    box = wide_box(picture)
    found = {picture: True}
    level = [picture]
    for _ in range(k):
        level = next_level(level, found, box)
        for each in level:
            found[each] = True
    return tuple(sorted(found))


def least_changes(one, other, k):
    """The least number of changes, to k, that lead one to other within their box and one cell around; else None."""
    if one == other:
        return 0
    box = wide_box(united(one, other))
    found = {one: True}
    level = [one]
    for many in range(1, k + 1):
        # What is too unlike other leads there by no changes that are left.
        level = [each for each in next_level(level, found, box) if changes_bound(each, other) <= k - many]
        if other in level:
            return many
        for each in level:
            found[each] = True
    return None


def changes_bound(one, other):
    """How many cells are black in just one of two pictures: no fewer changes lead one to other."""
    return len(unlike_cells(one, other))
