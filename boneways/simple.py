"""Codes of rounds, simple cells, striking, adding and changes (points 3.1 to 3.5)."""

from boneways.pictures import NEAR_STEPS, SIDE_STEPS, cell_table, is_cell, is_picture, lies_in
from boneways.pictures import near_cells, picture_of, taken_out
from boneways.pieces import holes, lots_in, owners_in, pieces
from boneways.values import is_whole


def code_in(table, cell):
    """The code of those near cells of a cell that stand in a table."""
    x, y = cell
    code = 0
    bit = 1
    for dx, dy in NEAR_STEPS:
        if (x + dx, y + dy) in table:
            code += bit
        bit += bit
    return code


def code_at(picture, cell):
    """The code of the black ones of the round of any cell."""
    return code_in(cell_table(picture), cell)


def code_numbers(code):
    """The ascending tuple of the numbers in a code."""
    return tuple(number for number in range(8) if code >> number & 1)


def code_with(numbers):
    """The code with these unlike numbers."""
    return sum(1 << number for number in numbers)


def cells_of_code(cell, code):
    """The ascending tuple of the cells of a round that are in a code."""
    near = near_cells(cell)
    return picture_of([near[number] for number in code_numbers(code)])


def turned_code(code, t):
    """The code of the round turned by the turn number t."""
    if t >= 4:
        code = code_with([(4 - number) % 8 for number in code_numbers(code)])
    # A quarter turn leads each number to the one two farther on.
    step = 2 * (t % 4)
    return (code << step | code >> (8 - step)) & 255


def number_lots(numbers, steps):
    """The ascending tuple of the lots of numbers into which their cells fall, joined by steps."""
    number_of = {cell: number for number, cell in enumerate(NEAR_STEPS)}
    cells = picture_of([NEAR_STEPS[number] for number in numbers])
    lots = lots_in(cells, steps)
    return tuple(sorted([tuple(sorted([number_of[cell] for cell in lot])) for lot in lots]))


def code_pieces(code):
    """The lots of a code's numbers, joined by near cells."""
    return number_lots(code_numbers(code), NEAR_STEPS)


def code_rooms(code):
    """The lots of the numbers that are not in a code, joined side by side."""
    return number_lots(code_numbers(255 - code), SIDE_STEPS)


def room_ends(code):
    """How many ends rooms with a side have, going round a code."""
    # Each such room ends behind one white side: there the corner or the side that follow are black.
    # (White all around, there is no end.)
    twice_round = code << 8 | code
    ends = 0
    for side in (0, 2, 4, 6):
        side_corner_side = twice_round >> side & 7
        if side_corner_side in (2, 4, 6):
            ends += 1
    return ends


def is_simple_code(code):
    """Whether a code has just one piece, and just one of its rooms has a side."""
    # If there is just one end, all that is black lies between it and the room's beginning: one piece.
    return room_ends(code) == 1


def simple_codes():
    """The ascending tuple of all simple codes."""
    return tuple(code for code in range(256) if is_simple_code(code))


def is_simple_in(table, cell):
    """Whether the code of a cell is simple, among the black cells of a table."""
    return is_simple_code(code_in(table, cell))


def is_simple(picture, cell):
    """Whether any cell is a black one whose code is simple."""
    black = cell_table(picture)
    return cell in black and is_simple_in(black, cell)


def simple_cells(picture):
    """The ascending tuple of all simple cells."""
    black = cell_table(picture)
    return tuple(cell for cell in picture if is_simple_in(black, cell))


def is_lot(picture, value):
    """Whether any value is an ascending tuple of unlike black cells."""
    return is_picture(value) and lies_in(value, picture)


def struck(picture, lot):
    """The picture without the cells of a lot."""
    return taken_out(picture, lot)


def piece_fault(picture, left):
    """The fault that a piece is lost or torn in what is left, None if none is."""
    old = pieces(picture)
    owners = owners_in(old)
    counts = [0] * len(old)
    for piece in pieces(left):
        counts[owners[piece[0]]] += 1
    lost = [piece[0] for piece, count in zip(old, counts) if count == 0]
    if len(lost) > 0:
        return ("lost", lost[0])
    torn = [piece[0] for piece, count in zip(old, counts) if count > 1]
    return ("torn", torn[0]) if len(torn) > 0 else None


def room_fault(picture, left):
    """The fault that a hole is joined to another room, or a room is new, None if none is."""
    old, new = holes(picture), holes(left)
    owners = owners_in(new)
    # The last number is that of the outside of what is left, which holds the outside.
    outer = len(new)
    homes = [owners.get(hole[0], outer) for hole in old]
    counts = [0] * outer + [1]
    for home in homes:
        counts[home] += 1
    joined = [hole[0] for hole, room in zip(old, homes) if counts[room] > 1]
    if len(joined) > 0:
        return ("joined", joined[0])
    made = [hole[0] for hole, count in zip(new, counts) if count == 0]
    return ("new", made[0]) if len(made) > 0 else None


def judge_struck(picture, lot):
    """None if striking a lot keeps, else the first fault."""
    left = struck(picture, lot)
    return piece_fault(picture, left) or room_fault(picture, left)


def keeps(picture, lot):
    """Whether striking a lot keeps."""
    return judge_struck(picture, lot) is None


def is_addable(picture, cell):
    """Whether any cell is a white one whose code is simple."""
    black = cell_table(picture)
    return cell not in black and is_simple_in(black, cell)


def addable(picture):
    """The ascending tuple of all cells that may be added."""
    black = cell_table(picture)
    # A simple code has a piece, so that the cell is near a black one.
    white = sorted({near for cell in picture for near in near_cells(cell) if near not in black})
    return tuple(cell for cell in white if is_simple_in(black, cell))


def with_cell(picture, cell):
    """The picture with a cell."""
    # Python sorts soon what is sorted but for its last member.
    return picture if cell in picture else tuple(sorted([*picture, cell]))


def without_cell(picture, cell):
    """The picture without a cell."""
    return tuple(each for each in picture if each != cell)


def is_change_in(black, value):
    """Whether any value is a change of the picture whose black cells a table has."""
    if not (isinstance(value, tuple) and len(value) == 2 and is_cell(value[0]) and is_whole(value[1])):
        return False
    cell, kind = value
    if kind != (0 if cell in black else 1):
        return False
    return is_simple_in(black, cell)


def is_change(picture, value):
    """Whether any value is a change of the picture."""
    return is_change_in(cell_table(picture), value)


def changed(picture, change):
    """The picture behind a change."""
    cell, kind = change
    return with_cell(picture, cell) if kind == 1 else without_cell(picture, cell)


def all_changes(picture):
    """The ascending tuple of all changes of the picture."""
    strikes = [(cell, 0) for cell in simple_cells(picture)]
    adds = [(cell, 1) for cell in addable(picture)]
    return tuple(sorted(strikes + adds))


def judge_changes(picture, value):
    """None if any value is a list or tuple of changes, one behind another, else the first fault."""
    if not isinstance(value, (list, tuple)):
        return ("form",)
    black = cell_table(picture)
    for k, change in enumerate(value):
        if not is_change_in(black, change):
            return ("change", k)
        cell, kind = change
        if kind == 1:
            black[cell] = True
        else:
            del black[cell]
    return None
