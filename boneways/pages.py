"""Pages (points 13.1 to 13.6): letters cut out, named by a book, set and read in lines, and compared.

A letter is a pair (place, glyph).
"""

from boneways.pictures import at_home, box_of, is_picture, pose_between, shared, shifted, taken_out, united
from boneways.pictures import unlike_cells
from boneways.pieces import holes, pieces
from boneways.rims import picture_sides
from boneways.tree import form_of

NAMES = "abcdefghijklmnopqrstuvwxyz"


def letter_of(piece):
    """The place of a piece, and its glyph."""
    return (box_of(piece)[:2], at_home(piece))


def letters_of(page):
    """The ascending tuple of the letters of a page, one for each of its pieces."""
    return tuple(sorted([letter_of(piece) for piece in pieces(page)]))


def letter_cells(letter):
    """The picture of a letter, where it stands."""
    (x, y), glyph = letter
    return shifted(glyph, x, y)


def put_glyph(page, place, glyph):
    """The page with the cells of a glyph at a place."""
    return united(page, letter_cells((place, glyph)))


def is_name(value):
    """Whether any value is a text of one sign from a to z."""
    return isinstance(value, str) and len(value) == 1 and value in NAMES


def is_glyph(value):
    """Whether any value is a picture of one piece that is at home."""
    return is_picture(value) and at_home(value) == value and len(pieces(value)) == 1


def pair_fault(value, k):
    """The word of the first fault of pair number k, all pairs ahead being right; None if it has none."""
    name, glyph = value[k]
    if not is_name(name) or (k > 0 and name <= value[k - 1][0]):
        return "name"
    if not is_glyph(glyph):
        return "glyph"
    return "twice" if name_of(value[:k], glyph) is not None else None


def judge_book(value):
    """None if any value is a book, else the first fault."""
    if not (isinstance(value, tuple) and all(isinstance(pair, tuple) and len(pair) == 2 for pair in value)):
        return ("form",)
    for k in range(len(value)):
        word = pair_fault(value, k)
        if word is not None:
            return (k, word)
    return None


def name_of(book, glyph):
    """The name of the pair with this glyph, None if there is none."""
    for name, each in book:
        if each == glyph:
            return name
    return None


def turned_names(book, glyph):
    """The ascending tuple of the names whose glyph is led to this one by a turn, each with the least such turn."""
    ways = [(name, pose_between(each, glyph)) for name, each in book]
    return tuple((name, way[0]) for name, way in ways if way is not None)


def signs_of(glyph):
    """How many cells and holes a glyph has, the form of its tree, and the length of its rims."""
    return (len(glyph), len(holes(glyph)), form_of(glyph), len(picture_sides(glyph)))


def near_names(book, glyph):
    """The names whose glyph has the same holes and tree, by how many cells are unlike, then by name."""
    signs = signs_of(glyph)[1:3]
    found = [(len(unlike_cells(each, glyph)), name) for name, each in book if signs_of(each)[1:3] == signs]
    return tuple(name for _, name in sorted(found))


def set_line(book, text, gap):
    """The page on which the glyphs of a text stand in a row, with a gap behind each name and for each blank."""
    glyphs = {name: glyph for name, glyph in book}
    page = ()
    x = 0
    for sign in text:
        if sign != " ":
            page = put_glyph(page, (x, 0), glyphs[sign])
            # The width: a glyph at home begins with the column 0.
            x += box_of(glyphs[sign])[2] + 1
        x += gap
    return page


def lines_of(page):
    """The list of the lines of a page, the one with the greatest y first, each the ascending tuple of its letters."""
    lines = []
    free = None
    # From below upwards: a piece meets each row from its least y to its greatest.
    for y, letter in sorted([(each[0][1], each) for each in letters_of(page)]):
        if free is None or y >= free:
            lines.append([])
            free = y
        lines[-1].append(letter)
        free = max(free, y + box_of(letter[1])[3] + 1)
    return [tuple(sorted(line)) for line in lines[::-1]]


def read_page(book, page):
    """The list of the texts of the lines of a page, "?" for each letter without a name."""
    return ["".join([name_of(book, glyph) or "?" for _, glyph in line]) for line in lines_of(page)]


def compare(one, other):
    """The letters of both pages, those of one alone, and those of other alone, each an ascending tuple."""
    mine, yours = letters_of(one), letters_of(other)
    # Letters are shared and taken out as cells are.
    return (shared(mine, yours), taken_out(mine, yours), taken_out(yours, mine))


def patched(page, lost, new):
    """The page without the cells of the letters lost, and then with those of the letters new."""
    for letter in lost:
        page = taken_out(page, letter_cells(letter))
    for place, glyph in new:
        page = put_glyph(page, place, glyph)
    return page
