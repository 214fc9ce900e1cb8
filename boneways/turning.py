"""Rims turned (point 10.6): the words of their turns, and rims shifted, turned and mirrored."""

from boneways.rims import end_of, rim_of_sides, rim_sides, turns_in


def turn_word(rim):
    """The tuple of the turn behind each side: 1 to the left, 0 straight on, -1 to the right."""
    return turns_in(rim[1])


def least_turns(rim):
    """The least of the words of turns that come if one begins at any side."""
    word = turn_word(rim)
    least = word
    for k in range(1, len(word)):
        least = min(least, word[k:] + word[:k])
    return least


def rim_from(corner, d, turns):
    """The rim that has the side (corner, d), and these turns behind it and those that follow."""
    sides = [(corner, d)]
    # The last turn leads back to the first side.
    for turn in turns[:-1]:
        sides.append((end_of(sides[-1]), (sides[-1][1] + turn) % 4))
    return rim_of_sides(sides)


def shifted_rim(rim, dx, dy):
    """The rim with all corners moved alike."""
    (x, y), word = rim
    return ((x + dx, y + dy), word)


def turned_rim(rim):
    """The rim with each corner (x, y) led to (-y, x)."""
    return rim_of_sides([((-y, x), (d + 1) % 4) for (x, y), d in rim_sides(rim)])


def mirrored_rim(rim):
    """The rim with each corner (x, y) led to (-x, y), gone round the other way."""
    sides = []
    for side in rim_sides(rim)[::-1]:
        # The other way, a side begins where it ended: up becomes down, and right stays right.
        x, y = end_of(side)
        sides.append(((-x, y), -side[1] % 4))
    return rim_of_sides(sides)
