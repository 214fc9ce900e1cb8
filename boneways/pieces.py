"""Pieces, rooms and Euler's number (points 2.1, 2.4 and 2.5)."""

from boneways.pictures import NEAR_STEPS, SIDE_STEPS, box_of, cell_table, is_picture, near_cells, side_cells
from boneways.values import is_ascending

OUTSIDE = ("outside",)


def lot_from(table, start, steps):
    """The ascending tuple of the cells of a table to which steps within it lead from one of them."""
    found = {start: True}
    waiting = [start]
    while waiting:
        x, y = waiting.pop()
        for dx, dy in steps:
            cell = (x + dx, y + dy)
            if cell in table and cell not in found:
                found[cell] = True
                waiting.append(cell)
    return tuple(sorted(found))


def lots_in(cells, steps):
    """The ascending tuple of the lots into which ascending cells fall that are joined by steps."""
    left = cell_table(cells)
    lots = []
    for cell in cells:
        if cell in left:
            lot = lot_from(left, cell, steps)
            lots.append(lot)
            for each in lot:
                del left[each]
    return tuple(lots)


def white_about(picture):
    """The white cells, ascending, of the box made greater by one cell each way."""
    if len(picture) == 0:
        return ()
    black = cell_table(picture)
    x0, y0, x1, y1 = box_of(picture)
    return tuple((x, y) for x in range(x0 - 1, x1 + 2) for y in range(y0 - 1, y1 + 2) if (x, y) not in black)


def pieces(picture):
    """The ascending tuple of the pieces."""
    return lots_in(picture, NEAR_STEPS)


def holes(picture):
    """The ascending tuple of the holes."""
    # The cells around the box hang together outside, and the first of all cells is one of them.
    return lots_in(white_about(picture), SIDE_STEPS)[1:]


def place_of(picture, cell):
    """Where a cell is: in which piece, in which hole, or outside."""
    black = cell_table(picture)
    if cell in black:
        return ("piece", lot_from(black, cell, NEAR_STEPS)[0])
    white = white_about(picture)
    table = cell_table(white)
    if cell not in table:
        return OUTSIDE
    name = lot_from(table, cell, SIDE_STEPS)[0]
    return OUTSIDE if name == white[0] else ("hole", name)


def window_counts(picture):
    """How many windows have just one black cell, just three, just two that are not side by side."""
    black = cell_table(picture)
    corners = sorted({(x - i, y - j) for x, y in picture for i in (0, 1) for j in (0, 1)})
    one, three, cross = 0, 0, 0
    for x, y in corners:
        seen = [cell in black for cell in ((x, y), (x + 1, y), (x, y + 1), (x + 1, y + 1))]
        many = seen.count(True)
        if many == 1:
            one += 1
        elif many == 3:
            three += 1
        elif many == 2 and seen[0] == seen[3]:
            cross += 1
    return (one, three, cross)


def euler(picture):
    """How many pieces less how many holes there are, by windows alone."""
    one, three, cross = window_counts(picture)
    return (one - three - 2 * cross) // 4


def are_lots(value):
    """Whether any value is an ascending tuple of unlike pictures other than ()."""
    if not isinstance(value, tuple):
        return False
    return all(is_picture(lot) and len(lot) > 0 for lot in value) and is_ascending(value)


def cells_told(lots):
    """The list of the cells of all lots."""
    return [cell for lot in lots for cell in lot]


def owners_in(lots):
    """The dict of the number of a lot for each cell of lots."""
    return {cell: k for k, lot in enumerate(lots) for cell in lot}


def least_told(word, cells):
    """The fault that tells the least one of an ascending list of cells, None if it is empty."""
    return (word, cells[0]) if len(cells) > 0 else None


def twice_fault(lots):
    """The fault that a cell stands in two lots, None if none does."""
    seen = {}
    for cell in cells_told(lots):
        seen[cell] = seen.get(cell, 0) + 1
    return least_told("twice", sorted([cell for cell in seen if seen[cell] > 1]))


def apart_fault(lots, steps):
    """The fault that a lot does not hang together by steps, None if all do."""
    for k, lot in enumerate(lots):
        if len(lot_from(cell_table(lot), lot[0], steps)) < len(lot):
            return ("apart", k)
    return None


def near_fault(lots):
    """The fault that two lots that share no cell have near cells, None if none have."""
    owners = owners_in(lots)
    pairs = []
    for cell, k in owners.items():
        for near in near_cells(cell):
            if owners.get(near, k) > k:
                pairs.append((k, owners[near]))
    return ("near", *min(pairs)) if len(pairs) > 0 else None


def unclosed_fault(picture, lots):
    """The fault that a lot of white cells is left by one step to a white cell, None if none is."""
    black = cell_table(picture)
    owners = owners_in(lots)
    for k, lot in enumerate(lots):
        for cell in lot:
            if any(side not in black and owners.get(side) != k for side in side_cells(cell)):
                return ("open", k)
    return None


def judge_pieces(picture, value):
    """None if any value is the pieces of the picture, else the first fault."""
    if not are_lots(value):
        return ("form",)
    wrong = least_told("cell", sorted(set(picture) ^ set(cells_told(value))))
    return wrong or twice_fault(value) or apart_fault(value, NEAR_STEPS) or near_fault(value)


def judge_holes(picture, value):
    """None if any value is the holes of the picture, else the first fault."""
    if not are_lots(value):
        return ("form",)
    told = cells_told(value)
    wrong = least_told("cell", sorted(set(picture) & set(told)))
    fault = wrong or twice_fault(value) or apart_fault(value, SIDE_STEPS) or unclosed_fault(picture, value)
    return fault or least_told("lacks", sorted(set(cells_told(holes(picture))) - set(told)))
