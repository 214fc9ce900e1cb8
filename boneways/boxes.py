"""Boxes and diamonds (points 9.1 to 9.4, and ridge of 9.6): depths, greatest ones, and those that can be spared."""

from itertools import combinations

from boneways.pictures import NEAR_STEPS, SIDE_STEPS, cell_table, is_cell, taken_out
from boneways.values import is_ascending, is_whole


def stepped(cells, steps):
    """The list of the cells to which one step leads from some of the cells."""
    return [(x + dx, y + dy) for x, y in cells for dx, dy in steps]


def depth_table(picture, steps):
    """The dict of the least number of steps from each black cell to a white one."""
    black = cell_table(picture)
    level = [cell for cell in picture if any([near not in black for near in stepped([cell], steps)])]
    depths = {}
    depth = 1
    while level:
        for cell in level:
            depths[cell] = depth
        depth += 1
        level = sorted({near for near in stepped(level, steps) if near in black and near not in depths})
    return depths


def depths_told(picture, steps):
    """The ascending tuple of the pairs of each black cell and its depth."""
    depths = depth_table(picture, steps)
    return tuple((cell, depths[cell]) for cell in picture)


def step_depths(picture):
    """The pairs of each black cell and its step depth."""
    return depths_told(picture, SIDE_STEPS)


def box_depths(picture):
    """The pairs of each black cell and its box depth."""
    return depths_told(picture, NEAR_STEPS)


def depth_between(one, other, is_near):
    """The least number of near steps, or of steps side by side, from one cell to other."""
    across, up = abs(one[0] - other[0]), abs(one[1] - other[1])
    return max(across, up) if is_near else across + up


def box_cells(box):
    """The picture of all cells of a box."""
    (x, y), r = box
    return tuple((i, j) for i in range(x - r + 1, x + r) for j in range(y - r + 1, y + r))


def diamond_cells(diamond):
    """The picture of all cells of a diamond."""
    (x, y), r = diamond
    columns = [(i, r - abs(i - x)) for i in range(x - r + 1, x + r)]
    return tuple((i, j) for i, many in columns for j in range(y - many + 1, y + many))


def greatest_of(depths, steps):
    """The ascending tuple of the boxes, or diamonds, that lie in no other one, from all depths by these steps."""
    # What lies in another one, lies also in one whose cell is one step nearer to that one's, greater by one.
    return tuple((cell, depths[cell]) for cell in sorted(depths)
                 if all([depths.get(near, 0) <= depths[cell] for near in stepped([cell], steps)]))


def greatest_boxes(picture):
    """The ascending tuple of the boxes that lie in the picture and in no other one that does."""
    return greatest_of(depth_table(picture, NEAR_STEPS), NEAR_STEPS)


def greatest_diamonds(picture):
    """The ascending tuple of the diamonds that lie in the picture and in no other one that does."""
    return greatest_of(depth_table(picture, SIDE_STEPS), SIDE_STEPS)


def picture_reached(middles, steps):
    """The picture of all cells that are at most r - 1 steps from the cell of some pair (cell, r)."""
    begun = {}
    for cell, r in middles:
        begun.setdefault(r, []).append(cell)
    found = {}
    level = []
    # Each cell is found first where the most steps are left, so that no other way to it leads farther.
    for r in reversed(range(1, max(begun, default=0) + 1)):
        level = sorted({cell for cell in stepped(level, steps) + begun.get(r, []) if cell not in found})
        for cell in level:
            found[cell] = True
    return tuple(sorted(found))


def picture_of_boxes(boxes):
    """The picture of all cells of a list of boxes."""
    return picture_reached(boxes, NEAR_STEPS)


def picture_of_diamonds(diamonds):
    """The picture of all cells of a list of diamonds."""
    return picture_reached(diamonds, SIDE_STEPS)


def is_box(value):
    """Whether any value is a box."""
    if not (isinstance(value, tuple) and len(value) == 2):
        return False
    return is_cell(value[0]) and is_whole(value[1]) and value[1] >= 1


def judge_boxes(picture, value):
    """None if any value is the greatest boxes of the picture, else the first fault."""
    if not (isinstance(value, tuple) and all(is_box(box) for box in value) and is_ascending(value)):
        return ("form",)
    depths = depth_table(picture, NEAR_STEPS)
    greatest = greatest_of(depths, NEAR_STEPS)
    for cell, r in value:
        if r > depths.get(cell, 0):
            return ("out", (cell, r))
    for box in value:
        if box not in greatest:
            return ("less", box)
    lacking = [box for box in greatest if box not in value]
    return ("left", lacking[0]) if len(lacking) > 0 else None


def cover_counts(boxes):
    """The dict of how many of the boxes each cell lies in."""
    counts = {}
    for box in boxes:
        for cell in box_cells(box):
            counts[cell] = counts.get(cell, 0) + 1
    return counts


def is_needed(counts, box):
    """Whether a box has a cell that lies in it alone."""
    return any(counts[cell] == 1 for cell in box_cells(box))


def needed_boxes(picture):
    """The ascending tuple of the greatest boxes that have a cell that lies in no other one."""
    boxes = greatest_boxes(picture)
    counts = cover_counts(boxes)
    return tuple(box for box in boxes if is_needed(counts, box))


def kept_boxes(picture, order):
    """The boxes that stay if, in this order, each greatest box that can be spared is left out."""
    counts = cover_counts(order)
    kept = []
    for box in order:
        if is_needed(counts, box):
            kept.append(box)
        else:
            for cell in box_cells(box):
                counts[cell] -= 1
    return tuple(sorted(kept))


def union_of(sets):
    """The set of all numbers that are in some of the sets, each told as a code tells numbers."""
    union = 0
    for each in sets:
        union |= each
    return union


def fewest_boxes(picture):
    """The least of the lots of as few greatest boxes as can be that give the picture."""
    needed = needed_boxes(picture)
    others = [box for box in greatest_boxes(picture) if box not in needed]
    numbers = {cell: number for number, cell in enumerate(taken_out(picture, picture_of_boxes(needed)))}
    sets = {box: sum([1 << numbers[cell] for cell in box_cells(box) if cell in numbers]) for box in others}
    whole = union_of(list(sets.values()))
    # Lots of as many boxes are in the same sequence with the needed ones as without them.
    for many in range(len(others) + 1):
        for lot in combinations(others, many):
            if union_of([sets[box] for box in lot]) == whole:
                return tuple(sorted([*needed, *lot]))


def ridge(picture):
    """The picture of the middles of all greatest boxes."""
    return tuple(cell for cell, _ in greatest_boxes(picture))
