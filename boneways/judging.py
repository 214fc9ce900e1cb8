"""Rules judged (points 6.1 to 6.6): the lots of entries that no safe rule has in a pass, faults, papers.

A pattern here is a tuple of the pairs (cell, code) of the struck cells of a little fault, one of them at 0, 0.
"""

from boneways.lots import order_of
from boneways.pictures import is_picture, picture_of, shifted
from boneways.rules import MOST_CODE, class_number, entries_of
from boneways.runs import is_pass_number, strikes
from boneways.simple import cells_of_code, code_at, is_simple_code, simple_codes, turned_code
from boneways.values import is_whole

# Two cells that touch at a corner, three and four cells within two by two, the least one at 0, 0.
LITTLE_PIECES = (
    ((0, 0), (1, -1)),
    ((0, 0), (1, 1)),
    ((0, 0), (0, 1), (1, 0)),
    ((0, 0), (0, 1), (1, 1)),
    ((0, 0), (1, -1), (1, 0)),
    ((0, 0), (1, 0), (1, 1)),
    ((0, 0), (0, 1), (1, 0), (1, 1)),
)


def cell_patterns():
    """The patterns of single cells that are not simple."""
    return [(((0, 0), code),) for code in range(MOST_CODE + 1) if not is_simple_code(code)]


def pair_codes():
    """The pairs of the codes of two simple cells, left and right, such that striking both does not keep."""
    simple = simple_codes()
    lefts = [code for code in simple if code & 1]
    # Striking the left one keeps; so both are kept exactly if the right one is simple then.
    rights = [code for code in simple if code & 16 and not is_simple_code(code - 16)]
    # Both see four cells alike: numbers 1, 2, 6, 7 of the left one are 2, 3, 5, 6 of the right one.
    return [(left, right) for left in lefts for right in rights
            if ((left & 6) << 1 | (left & 192) >> 1) == right & 108]


def pair_patterns():
    """The patterns of two simple cells side by side such that striking both does not keep."""
    found = []
    for left, right in pair_codes():
        found.append((((0, 0), left), ((1, 0), right)))
        # Turned by a quarter, the left one is the lower one.
        found.append((((0, 0), turned_code(left, 1)), ((0, 1), turned_code(right, 1))))
    return found


def piece_patterns():
    """The patterns of whole pieces within two by two."""
    return [tuple([(cell, code_at(piece, cell)) for cell in piece]) for piece in LITTLE_PIECES]


def patterns():
    """The list of the patterns of all three sorts."""
    return cell_patterns() + pair_patterns() + piece_patterns()


def lot_at(pattern, a, b, x, y):
    """The lot of entries, with a times b classes, of a pattern moved to x, y."""
    return tuple(sorted({(class_number(a, b, (x + dx, y + dy)), code) for (dx, dy), code in pattern}))


def bad_lots(a, b):
    """The ascending tuple of the bad lots of entries, with a times b classes."""
    places = [(x, y) for x in range(a) for y in range(b)]
    return tuple(sorted({lot_at(pattern, a, b, x, y) for pattern in patterns() for x, y in places}))


def faults_in(rule):
    """The ascending tuple of the pairs of a pass and a bad lot that lies within its entries."""
    lots = bad_lots(rule[0], rule[1])
    found = []
    for p in range(len(rule[2])):
        entries = {entry: True for entry in entries_of(rule, p)}
        found.extend([(p, lot) for lot in lots if all([entry in entries for entry in lot])])
    return tuple(found)


def is_safe(rule):
    """Whether no bad lot lies within the entries of a pass."""
    return len(faults_in(rule)) == 0


def cells_struck(pattern):
    """The picture of the cells that a pattern strikes."""
    return picture_of([cell for cell, _ in pattern])


def picture_around(pattern):
    """The picture of the cells that a pattern strikes and of their black neighbours."""
    near = [each for cell, code in pattern for each in cells_of_code(cell, code)]
    return picture_of([cell for cell, _ in pattern] + near)


def least_picture(a, b, lot):
    """The first picture that brings a bad lot, and the cells struck in it: the pair (cells, picture)."""
    found = []
    for pattern in patterns():
        for x in range(a):
            for y in range(b):
                if lot_at(pattern, a, b, x, y) == lot:
                    picture = shifted(picture_around(pattern), x, y)
                    found.append((len(picture), picture, shifted(cells_struck(pattern), x, y)))
    _, picture, cells = min(found)
    return (cells, picture)


def least_fault(rule):
    """None for a safe rule, else the fault of its least pass and of the least bad lot in it."""
    found = faults_in(rule)
    if len(found) == 0:
        return None
    p, lot = found[0]
    return (p, *least_picture(rule[0], rule[1], lot))


def has_fault_form(rule, value):
    """Whether any value is a triple of a pass's number and two pictures."""
    if not (isinstance(value, tuple) and len(value) == 3):
        return False
    return is_pass_number(rule, value[0]) and is_picture(value[1]) and is_picture(value[2])


def judge_fault(rule, value):
    """None if any value is a fault of the rule, else the first fault of the value."""
    if not has_fault_form(rule, value):
        return ("form",)
    p, lot, picture = value
    seen = {cell: True for cell in strikes(rule, p, picture)}
    for cell in lot:
        if cell not in seen:
            return ("lot", cell)
    # Striking keeps exactly if there is an order; an order is found however far apart the cells are.
    return ("keeps",) if order_of(picture, lot) is not None else None


def lots_by_entry(lots):
    """The dict of the list of the lots, ascending, in which each entry stands."""
    found = {}
    for lot in lots:
        for entry in lot:
            found.setdefault(entry, []).append(lot)
    return found


def first_within(lots, taken, entry):
    """The first of the lots that lies within the entries taken and this one, None if none does."""
    for lot in lots:
        if all([each == entry or each in taken for each in lot]):
            return lot
    return None


def all_entries(rule):
    """The list of the triples (p, k, code) of all entries of all passes, ascending."""
    return [(p, k, code) for p in range(len(rule[2])) for k, code in entries_of(rule, p)]


def safe_within(rule, order):
    """The safe rule that comes if the rule's entries are put to it one by one, those of the order first."""
    a, b, passes = rule
    every = all_entries(rule)
    known = {triple: True for triple in every}
    lots = lots_by_entry(bad_lots(a, b))
    taken = [{} for _ in passes]
    for triple in [*order, *every]:
        if triple in known:
            p, k, code = triple
            if first_within(lots.get((k, code), []), taken[p], (k, code)) is None:
                taken[p][(k, code)] = True
    return (a, b, tuple([tables_of(entries, a * b) for entries in taken]))


def tables_of(entries, many):
    """The tuple of so many tables whose entries these are."""
    return tuple([tuple(sorted([code for k, code in entries if k == number])) for number in range(many)])


def blocked_by(rule, safe, p, k, code):
    """The least bad lot that would lie within a safe rule's pass with this entry, None if there is none."""
    entries = {entry: True for entry in entries_of(safe, p)}
    lots = [lot for lot in bad_lots(rule[0], rule[1]) if (k, code) in lot]
    return first_within(lots, entries, (k, code))


def judgement(rule):
    """("safe", how many bad lots were looked for), or ("fault", the least fault)."""
    fault = least_fault(rule)
    if fault is None:
        return ("safe", len(bad_lots(rule[0], rule[1])))
    return ("fault", fault)


def judge_safe(rule, checks):
    """None if the rule is safe and has so many bad lots to look for, else the first fault."""
    found = faults_in(rule)
    if len(found) > 0:
        return ("bad", *found[0])
    many = len(bad_lots(rule[0], rule[1]))
    return ("checks", many) if checks != many else None


def judge_judgement(rule, value):
    """None if any value is a judgement of the rule that holds, else its first fault."""
    if not (isinstance(value, tuple) and len(value) == 2):
        return ("form",)
    word, told = value
    if word == "safe" and is_whole(told) and told >= 0:
        return judge_safe(rule, told)
    if word == "fault":
        fault = judge_fault(rule, told)
        return None if fault is None else ("fault", fault)
    return ("form",)
