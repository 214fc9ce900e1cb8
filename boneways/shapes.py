"""Shapes of webs (point 8.5): which knots are joined by which ways, and how long these are."""

from itertools import permutations

from boneways.values import is_whole


def measure_of(way):
    """How many ties of a way lie side by side, and how many cornerwise."""
    corners = [True for (x, y), (u, v) in zip(way, way[1:]) if x != u and y != v]
    return (len(way) - 1 - len(corners), len(corners))


def shape(web):
    """How many knots a web has, and its ways, each told by the numbers of its knots and its measure."""
    knots, ways = web
    numbers = {knot: k for k, knot in enumerate(knots)}
    told = []
    for way in ways:
        i, j = sorted([numbers[way[0]], numbers[way[-1]]])
        told.append((i, j, *measure_of(way)))
    return (len(knots), tuple(sorted(told)))


def renamed_way(way, numbers, measured):
    """A way of a shape with its knots renamed, its measure left out if measured is 0."""
    i, j, at_sides, at_corners = way
    low, high = sorted([numbers[i], numbers[j]])
    return (low, high, at_sides, at_corners) if measured == 1 else (low, high, 0, 0)


def renamed_ways(a, numbers, measured):
    """The ascending tuple of the ways of a shape with its knots renamed."""
    return tuple(sorted([renamed_way(way, numbers, measured) for way in a[1]]))


def own_ways(a, measured):
    """The ascending tuple of the ways of a shape, its knots as they are."""
    return renamed_ways(a, list(range(a[0])), measured)


def renaming(one, other, measured):
    """A tuple of the new numbers of the knots that leads one shape to other, None if there is none."""
    if one[0] != other[0]:
        return None
    told = own_ways(other, measured)
    for numbers in permutations(range(one[0])):
        if renamed_ways(one, numbers, measured) == told:
            return numbers
    return None


def judge_renaming(one, other, measured, value):
    """None if any value is a renaming that leads one shape to other, else the first fault."""
    if one[0] != other[0] or not isinstance(value, tuple) or not all(is_whole(number) for number in value):
        return ("form",)
    if sorted(value) != list(range(one[0])):
        return ("form",)
    return None if renamed_ways(one, value, measured) == own_ways(other, measured) else ("ways",)


def least_shape(a, measured):
    """The least shape alike to a shape, with no measures if measured is 0."""
    least = own_ways(a, measured)
    for numbers in permutations(range(a[0])):
        least = min(least, renamed_ways(a, numbers, measured))
    return (a[0], least)
