"""Boards (points 12.1 to 12.4): pictures with their Euler's number, and the deeds done and taken back."""

from boneways.errors import BadDeed, NothingDone
from boneways.pictures import box_of, flipped, is_cell, near_cells, picture_of, shifted
from boneways.pieces import euler, pieces
from boneways.simple import addable, code_at, room_ends, simple_cells


def board_with(picture, number, log, back):
    """The board with these fields."""
    return {"picture": picture, "euler": number, "log": log, "back": back}


def new_board(picture):
    """The board of a picture of which nothing is done."""
    return board_with(picture, euler(picture), (), ())


def is_deed(board, value):
    """Whether any value is a deed for this board."""
    if not (isinstance(value, tuple) and len(value) > 0):
        return False
    word, told = value[0], value[1:]
    if word == "shift":
        # Two integers, as a cell has them.
        return is_cell(told)
    if not (word in ("strike", "add") and len(told) == 1 and is_cell(told[0])):
        return False
    return (told[0] in board["picture"]) == (word == "strike")


def contrary_deed(deed):
    """The deed that leads back."""
    if deed[0] == "shift":
        return ("shift", -deed[1], -deed[2])
    return ("strike" if deed[0] == "add" else "add", deed[1])


def picture_behind(picture, deed):
    """The picture behind a deed."""
    if deed[0] == "shift":
        return shifted(picture, deed[1], deed[2])
    return flipped(picture, deed[1])


def euler_change(code):
    """How much the number of pieces less that of holes rises when a cell whose round has this code is added."""
    # By itself the cell is a piece more, or it fills a hole. Where a room about it ends, there begins
    # black to which it is joined: so there is a piece less, or a room is parted, and there is a hole more.
    return 1 - room_ends(code)


def euler_rise(picture, deed):
    """How much the number of pieces less that of holes rises by a deed."""
    if deed[0] == "shift":
        return 0
    rise = euler_change(code_at(picture, deed[1]))
    return rise if deed[0] == "add" else -rise


def led_on(board, deed, log, back):
    """The board whose picture is that behind a deed, with these deeds done and taken back."""
    picture = board["picture"]
    return board_with(picture_behind(picture, deed), board["euler"] + euler_rise(picture, deed), log, back)


def done(board, deed):
    """The board behind a deed; BadDeed for what is none."""
    if not is_deed(board, deed):
        raise BadDeed()
    return led_on(board, deed, board["log"] + (deed,), ())


def undone(board):
    """The board ahead of the last deed; NothingDone if there is none."""
    log = board["log"]
    if len(log) == 0:
        raise NothingDone()
    return led_on(board, contrary_deed(log[-1]), log[:-1], board["back"] + log[-1:])


def redone(board):
    """The board behind the last deed taken back; NothingDone if there is none."""
    back = board["back"]
    if len(back) == 0:
        raise NothingDone()
    return led_on(board, back[-1], board["log"] + back[-1:], back[:-1])


def effect(board, deed):
    """How much the numbers of pieces, of holes, and of pieces less holes rise by a deed."""
    picture = board["picture"]
    more = len(pieces(picture_behind(picture, deed))) - len(pieces(picture))
    rise = euler_rise(picture, deed)
    return (more, more - rise, rise)


def simple_now(board):
    """The ascending tuple of the simple cells."""
    return simple_cells(board["picture"])


def addable_now(board):
    """The ascending tuple of the cells that may be added."""
    return addable(board["picture"])


def near_deed(board, deed):
    """The ascending tuple of the cell of a strike or an add, and its eight neighbours."""
    return picture_of([deed[1], *near_cells(deed[1])])


def is_kept(board):
    """Whether each deed done is a shift, or was of a cell that was simple, or could be added."""
    return first_torn(board) is None


def first_torn(board):
    """The number of the first deed that is not so, None if there is none."""
    for k, (picture, deed) in enumerate(zip(board_pictures(board), board["log"])):
        # Just the other strikes and adds change what Euler's number is.
        if euler_rise(picture, deed) != 0:
            return k
    return None


def board_pictures(board):
    """The list of the pictures ahead of each deed done, and of the board's own behind them."""
    pictures = [board["picture"]]
    for deed in board["log"][::-1]:
        pictures.append(picture_behind(pictures[-1], contrary_deed(deed)))
    return pictures[::-1]


def area_of(board):
    """How many cells are black."""
    return len(board["picture"])


def span_of(board):
    """The least x, the least y, the greatest x and the greatest y of the black cells, None if there are none."""
    return box_of(board["picture"])
