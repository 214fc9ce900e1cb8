"""Lots that may be struck in any part, by whichever hands (points 4.1 to 4.6)."""

from boneways.pictures import cell_table, is_cell, near_cells, picture_of, side_cells
from boneways.simple import is_lot, is_simple_in, keeps, simple_cells, struck


def is_bad_pair(black, cell, other):
    """Whether two black cells side by side are both simple, and striking both does not keep."""
    if not (is_simple_in(black, cell) and is_simple_in(black, other)):
        return False
    # Striking a simple cell keeps; so both are kept exactly if the second is simple then.
    left = {near: True for near in near_cells(other) if near in black and near != cell}
    return not is_simple_in(left, other)


def seen_from(black, cell):
    """The ascending tuple of a black cell and the black cells near it."""
    return picture_of([cell] + [near for near in near_cells(cell) if near in black])


def little_piece(black, cell):
    """The whole piece of two to four cells within two by two in which a black cell lies, else None."""
    piece = seen_from(black, cell)
    # Just in a piece within two by two each cell is near each other one, and near no more.
    alike = all(seen_from(black, each) == piece for each in piece)
    return piece if alike and len(piece) > 1 else None


def sort_in(black, part):
    """The word of the sort of a part of the black cells of a table, None if it is of none."""
    if len(part) == 1:
        return None if is_simple_in(black, part[0]) else "cell"
    if len(part) == 2 and part[1] in side_cells(part[0]) and is_bad_pair(black, part[0], part[1]):
        return "pair"
    # No pair of a piece of three or four cells is bad: what is left of it hangs together.
    if len(part) > 1 and little_piece(black, part[0]) == part:
        return "piece"
    return None


def sort_of(picture, part):
    """The word of the sort of a part: "cell", "pair", "piece", or None."""
    return sort_in(cell_table(picture), part)


def little_parts(black, lot, cell):
    """The parts of a lot that can be of one of the three sorts and whose least cell is this one."""
    x, y = cell
    parts = [(cell,)] + [(cell, other) for other in ((x, y + 1), (x + 1, y)) if other in lot]
    piece = little_piece(black, cell)
    if piece is not None and piece[0] == cell and piece not in parts and all(each in lot for each in piece):
        parts.append(piece)
    return parts


def bads_told(picture, lot):
    """The list of the pairs (word, part) of all least bad parts, those with fewer cells first."""
    black = cell_table(picture)
    table = cell_table(lot)
    found = []
    for cell in lot:
        for part in little_parts(black, table, cell):
            word = sort_in(black, part)
            if word is not None:
                found.append((word, part))
    return sorted(found, key=lambda told: (len(told[1]), told[1]))


def is_free(picture, lot):
    """Whether striking each part of a lot keeps."""
    return len(bads_told(picture, lot)) == 0


def least_bads(picture, lot):
    """The tuple of all least bad parts of a lot, those with fewer cells first, then ascending."""
    return tuple(told[1] for told in bads_told(picture, lot))


def free_fault(picture, lot):
    """None if a lot is free, else the word and the part of its first least bad part."""
    found = bads_told(picture, lot)
    return found[0] if len(found) > 0 else None


def judge_bad(picture, lot, value):
    """None if any value is a least bad part of a lot, else the first fault."""
    if not is_lot(lot, value):
        return ("form",)
    if keeps(picture, value):
        return ("keeps",)
    # The first bad one of all parts is a least bad one: what is bad in it would go ahead of it.
    first = least_bads(picture, value)[0]
    return None if first == value else ("less", first)


def order_of(picture, lot):
    """The order in which, each time, the least simple cell of a lot goes; None if none is left to go."""
    black = cell_table(picture)
    left = list(lot)
    order = []
    while left:
        ready = [cell for cell in left if is_simple_in(black, cell)]
        if len(ready) == 0:
            return None
        order.append(ready[0])
        left.remove(ready[0])
        del black[ready[0]]
    return tuple(order)


def judge_order(picture, lot, value):
    """None if any value is an order of a lot, else the first fault."""
    if not (isinstance(value, tuple) and all(is_cell(cell) for cell in value) and sorted(value) == list(lot)):
        return ("form",)
    black = cell_table(picture)
    for k, cell in enumerate(value):
        if not is_simple_in(black, cell):
            return ("cell", k)
        del black[cell]
    return None


def can_be_put(black, taken, cell):
    """Whether a black cell can be put to the cells taken, a free lot, so that it stays free."""
    if not is_simple_in(black, cell):
        return False
    if any(side in taken and is_bad_pair(black, cell, side) for side in side_cells(cell)):
        return False
    piece = little_piece(black, cell)
    return piece is None or not all(each == cell or each in taken for each in piece)


def free_within(picture, lot, order):
    """The free lot that comes if a lot's cells are taken in this order, each one if it stays free."""
    black = cell_table(picture)
    taken = {}
    for cell in order:
        if can_be_put(black, taken, cell):
            taken[cell] = True
    return tuple(sorted(taken))


def judge_most(picture, lot, value):
    """None if any value is a free part of a lot to which no cell can be put, else the first fault."""
    if not is_lot(lot, value):
        return ("form",)
    fault = free_fault(picture, value)
    if fault is not None:
        return ("free", fault[0], fault[1])
    black = cell_table(picture)
    taken = cell_table(value)
    for cell in lot:
        if cell not in taken and can_be_put(black, taken, cell):
            return ("more", cell)
    return None


def all_simple_free(picture):
    """The free lot within all simple cells of a picture, in ascending order."""
    lot = simple_cells(picture)
    return free_within(picture, lot, lot)


def together(hands):
    """The lot of all cells of some hands."""
    return picture_of([cell for hand in hands for cell in hand])


def hands_left(picture, hands):
    """The picture behind all hands."""
    return struck(picture, together(hands))


def safe_hands(picture, hands):
    """Whether the cells of all hands together are free."""
    return is_free(picture, together(hands))


def first_clash(picture, hands):
    """The least pair of numbers of hands whose cells together are not free, None if there is none."""
    for i in range(len(hands)):
        for j in range(i + 1, len(hands)):
            if not safe_hands(picture, (hands[i], hands[j])):
                return (i, j)
    return None
