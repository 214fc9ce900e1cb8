"""Pictures shrunk, grown, opened and closed (point 9.5, and within_reach of 9.6)."""

from boneways.boxes import box_depths, depth_between, picture_of_boxes


def shrunk_by(picture, r):
    """The picture of the cells with a box depth above r."""
    return tuple(cell for cell, depth in box_depths(picture) if depth > r)


def grown_by(picture, r):
    """The picture of all cells that are at most r near steps from a black one."""
    return picture_of_boxes([(cell, r + 1) for cell in picture])


def opened_by(picture, r):
    """The picture shrunk by r, and then grown by r."""
    return grown_by(shrunk_by(picture, r), r)


def closed_by(picture, r):
    """The picture grown by r, and then shrunk by r."""
    return shrunk_by(grown_by(picture, r), r)


def sizes_told(picture):
    """The tuple of how many cells the picture opened by 0, 1, 2 .. has, as long as there are some."""
    return tuple(len(opened_by(picture, r)) for r in range(greatest_size(picture)))


def greatest_size(picture):
    """The greatest box depth, 0 for ()."""
    return max([depth for _, depth in box_depths(picture)], default=0)


def within_reach(picture, cell, r):
    """The picture of the black cells that are at most r near steps from any cell."""
    return tuple(each for each in picture if depth_between(each, cell, True) <= r)
