"""The texts of pictures and of rows of cells (points 1.5 and 1.6)."""

from boneways.errors import BadText
from boneways.pictures import box_of, cell_table, picture_of

DIGITS = "0123456789"
MOST_DIGITS = 9


def picture_text(picture):
    """The text of a picture: where it stands, and its rows, the greatest y first."""
    if len(picture) == 0:
        return "empty"
    black = cell_table(picture)
    x0, y0, x1, y1 = box_of(picture)
    lines = [f"at {x0} {y0}"]
    for y in reversed(range(y0, y1 + 1)):
        lines.append("".join(["#" if (x, y) in black else "." for x in range(x0, x1 + 1)]))
    return "\n".join(lines)


def read_picture(text):
    """The picture that is written so; BadText for all else."""
    if not isinstance(text, str):
        raise BadText(0)
    if text == "empty":
        return ()
    if not text.startswith("at "):
        raise BadText(max(signs_alike(text, "at "), signs_alike(text, "empty")))
    x, y, end = pair_at(text, 3, " ", MOST_DIGITS)
    rows = rows_at(text, behind(text, end, "\n"))
    if not fills_its_box(rows):
        raise BadText(0)
    top = y + len(rows) - 1
    return picture_of([(x + i, top - j) for j, row in enumerate(rows) for i, sign in enumerate(row) if sign == "#"])


def fills_its_box(rows):
    """Whether the first and the last row, the first and the last column have a "#"."""
    edges = (rows[0], rows[-1], [row[0] for row in rows], [row[-1] for row in rows])
    return all("#" in edge for edge in edges)


def rows_at(text, at):
    """The rows of "#" and "." that stand from this place of the text to its end."""
    rows = text[at:].split("\n")
    width = len(rows[0])
    for row in rows:
        good = min(row_signs(row), width)
        # A row that ends too early fails at the sign behind it, as a wrong sign would.
        if good < len(row) or good < width or width == 0:
            raise BadText(at + good)
        at += len(row) + 1
    return rows


def row_signs(row):
    """How many signs of the row, from its beginning on, are "#" or "."."""
    return len(row) - len(row.lstrip("#."))


def cells_text(cells):
    """The text of cells in any sequence, in one line."""
    if len(cells) == 0:
        return "-"
    return " ".join([f"{x},{y}" for x, y in cells])


def read_cells(text):
    """The tuple of the cells that are written so; BadText for all else."""
    if not isinstance(text, str):
        raise BadText(0)
    if text == "-":
        return ()
    x, y, at = pair_at(text, 0, ",", MOST_DIGITS)
    cells = [(x, y)]
    while at < len(text):
        x, y, at = pair_at(text, behind(text, at, " "), ",", MOST_DIGITS)
        cells.append((x, y))
    return tuple(cells)


def pair_at(text, at, sign, most):
    """Two integers of at most so many digits at this place of a text, a sign between, and the place behind them."""
    one, at = number_at(text, at, most)
    other, at = number_at(text, behind(text, at, sign), most)
    return (one, other, at)


def number_at(text, at, most):
    """The integer of at most so many digits at this place of a text, and the place behind it."""
    end = number_end(text, at, most)
    if text[at:end] in ("", "-"):
        raise BadText(end)
    return (int(text[at:end]), end)


def number_end(text, at, most):
    """Where the longest beginning of an integer at this place of a text ends."""
    first = at + 1 if text[at:at + 1] == "-" else at
    if text[first:first + 1] == "0":
        # A nought stands alone: no digit goes behind it, and no - ahead of it.
        return first + 1 if first == at else first
    end = first
    while end < len(text) and end < first + most and text[end] in DIGITS:
        end += 1
    return end


def behind(text, at, sign):
    """The place behind the sign that has to stand at this place of a text."""
    if text[at:at + 1] != sign:
        raise BadText(at)
    return at + 1


def signs_alike(text, word):
    """How many signs of the text, from its beginning on, are those of the word."""
    count = 0
    while count < len(word) and text[count:count + 1] == word[count]:
        count += 1
    return count
