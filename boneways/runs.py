"""Runs of rules by any hands (points 7.1 to 7.6): what passes strike, bare pictures, ends, end cells."""

from boneways.pictures import cell_table, is_picture, lies_in, picture_of
from boneways.rules import MOST_CODE, strikes_code
from boneways.simple import cells_of_code, code_in, code_numbers, keeps, struck
from boneways.values import is_ascending, is_whole_to

# The codes with at most one black neighbour.
END_CODES = (0, 1, 2, 4, 8, 16, 32, 64, 128)


def strikes(rule, p, picture):
    """The picture of the cells that pass p strikes."""
    black = cell_table(picture)
    return tuple(cell for cell in picture if strikes_code(rule, p, cell, code_in(black, cell)))


def pass_behind(rule, p, picture):
    """The picture without all that pass p strikes."""
    return struck(picture, strikes(rule, p, picture))


def round_behind(rule, picture):
    """The picture behind all passes, one behind another."""
    for p in range(len(rule[2])):
        picture = pass_behind(rule, p, picture)
    return picture


def run_behind(picture, run):
    """The picture behind a run."""
    for _, part in run:
        picture = struck(picture, part)
    return picture


def is_pass_number(rule, value):
    """Whether any value is the number of a pass."""
    return is_whole_to(value, len(rule[2]) - 1)


def has_run_form(rule, value):
    """Whether any value is a tuple of pairs of a pass's number and an ascending tuple of unlike cells."""
    if not isinstance(value, tuple):
        return False
    for deed in value:
        if not (isinstance(deed, tuple) and len(deed) == 2):
            return False
        if not (is_pass_number(rule, deed[0]) and is_picture(deed[1])):
            return False
    return True


def judge_run(rule, picture, value):
    """None if any value is a run from this picture, else the first fault."""
    if not has_run_form(rule, value):
        return ("form",)
    for k, (p, part) in enumerate(value):
        seen = cell_table(strikes(rule, p, picture))
        for cell in part:
            if cell not in seen:
                return ("part", k, cell)
        picture = struck(picture, part)
    return None


def is_bare(rule, picture):
    """Whether no pass strikes a cell."""
    return all(len(strikes(rule, p, picture)) == 0 for p in range(len(rule[2])))


def rounds_of(rule, picture):
    """The tuple of the pictures behind each round, as long as a round strikes something."""
    pictures = []
    behind = round_behind(rule, picture)
    while behind != picture:
        pictures.append(behind)
        picture = behind
        behind = round_behind(rule, picture)
    return tuple(pictures)


def bones(rule, picture):
    """The picture behind as many rounds as strike something."""
    rounds = rounds_of(rule, picture)
    return rounds[-1] if len(rounds) > 0 else picture


def set_of(picture, part):
    """The set of the numbers that the cells of a part have in the picture, as a code tells numbers."""
    table = cell_table(part)
    return sum(1 << number for number, cell in enumerate(picture) if cell in table)


def part_of(picture, cells):
    """The part of the picture whose numbers are in a set."""
    return tuple(cell for number, cell in enumerate(picture) if cells >> number & 1)


def deeds_down(rule, picture):
    """The dict of how each set of cells that can be left comes first: (the set ahead, pass, set struck).

    The picture's own set has None. What comes by fewer deeds stands ahead.
    """
    whole = set_of(picture, picture)
    found = {whole: None}
    level = [whole]
    while level:
        below = []
        for cells in level:
            left = part_of(picture, cells)
            for p in range(len(rule[2])):
                seen = set_of(picture, strikes(rule, p, left))
                part = seen
                while part:
                    if cells - part not in found:
                        found[cells - part] = (cells, p, part)
                        below.append(cells - part)
                    # The next smaller one of the sets within what the pass strikes.
                    part = (part - 1) & seen
        level = below
    return found


def ends(rule, picture):
    """The ascending tuple of all bare pictures to which some run leads."""
    reached = [part_of(picture, cells) for cells in deeds_down(rule, picture)]
    return tuple(sorted([left for left in reached if is_bare(rule, left)]))


def run_to(rule, picture, end):
    """A run of the fewest deeds that leads to a bare picture, None if none does."""
    if not (lies_in(end, picture) and is_bare(rule, end)):
        return None
    found = deeds_down(rule, picture)
    cells = set_of(picture, end)
    if cells not in found:
        return None
    run = []
    while found[cells] is not None:
        cells, p, part = found[cells]
        run.append((p, part_of(picture, part)))
    return tuple(run[::-1])


def judge_ends(rule, picture, value):
    """None if any value is the ends of the picture, else the first fault."""
    if not (isinstance(value, tuple) and all(is_picture(end) for end in value) and is_ascending(value)):
        return ("form",)
    for k, end in enumerate(value):
        if not is_bare(rule, end):
            return ("bare", k)
    right = ends(rule, picture)
    for k, end in enumerate(value):
        if end not in right:
            return ("led", k)
    lacking = [end for end in right if end not in value]
    return ("lacks", lacking[0]) if len(lacking) > 0 else None


def kept_till(picture, run):
    """The least number of a deed of a run that does not keep, None if all keep."""
    for k, (_, part) in enumerate(run):
        if not keeps(picture, part):
            return k
        picture = struck(picture, part)
    return None


def spared(rule):
    """The ascending tuple of the codes that stand in no table."""
    told = {code: True for tables in rule[2] for table in tables for code in table}
    return tuple(code for code in range(MOST_CODE + 1) if code not in told)


def end_cells(picture):
    """The ascending tuple of the cells with at most one black neighbour."""
    black = cell_table(picture)
    return tuple(cell for cell in picture if len(code_numbers(code_in(black, cell))) <= 1)


def keeps_ends(rule):
    """Whether all codes with at most one black neighbour are spared."""
    left = spared(rule)
    return all(code in left for code in END_CODES)


def lost_end(rule):
    """None if the rule keeps ends, else the least picture of an end cell, and the least pass that strikes it."""
    for code in END_CODES:
        for x in range(rule[0]):
            for y in range(rule[1]):
                for p in range(len(rule[2])):
                    if strikes_code(rule, p, (x, y), code):
                        return (picture_of([(x, y), *cells_of_code((x, y), code)]), p)
    return None
