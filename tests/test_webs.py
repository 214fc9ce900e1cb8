"""boneways/webs.py: points 8.1 to 8.4."""

import random
import unittest

from boneways.judging import safe_within
from boneways.pictures import picture_of, posed, shifted
from boneways.pieces import holes, pieces, place_of
from boneways.rules import made_rule
from boneways.runs import bones
from boneways.simple import is_simple, without_cell
from boneways.webs import (
    branches, cells_of_web, is_bridge, is_thin, judge_web, kinds_of_knots, loops, sides, squares, tied_to, ties, web_of)
from tests.plain import ODD_VALUES, drawn, is_beside, is_near, nested, parted, pictures_within
from tests.test_pieces import CORNERS, RINGS, some_pictures

T, RING = ((0, 0), (1, 0), (1, 1), (2, 0)), ((-1, 0), (0, -1), (0, 1), (1, 0))
EIGHT = drawn(
    "..#..#.",
    ".#.##.#",
    ".#.#.#.",
    "..#.#..",
    "#......")
LOLLY = drawn(
    "..#..",
    ".#.##",
    "..#..")
MAZE = drawn(
    "######.#.#",
    "#....#..#.",
    "#.##.#.#.#",
    "#.#..#....",
    "#.####.###",
    "#......#.#",
    "########.#")


def plain_tied(picture, one, other):
    """Whether two black cells are tied, word for word."""
    if is_near(one, other) and not is_beside(one, other):
        return not any(is_beside(cell, one) and is_beside(cell, other) for cell in picture)
    return is_beside(one, other)


def plain_squares(picture):
    return tuple((x, y) for x, y in picture if {(x + 1, y), (x, y + 1), (x + 1, y + 1)} <= set(picture))


def plain_knots(picture):
    many = {one: sum(plain_tied(picture, one, other) for other in picture) for one in picture}
    rings = [piece[0] for piece in parted(picture, is_near) if all(many[cell] == 2 for cell in piece)]
    return tuple(sorted([cell for cell in picture if many[cell] != 2] + rings))


def plain_ways(picture, knots):
    """All ways: each row of tied cells, no tie twice, that goes on till a knot comes."""
    found = set()
    waiting = [(knot,) for knot in knots]
    for way in waiting:
        if len(way) > 1 and way[-1] in knots:
            found.add(min(way, way[::-1]))
            continue
        used = {frozenset(tie) for tie in zip(way, way[1:])}
        waiting += [way + (cell,) for cell in picture
                    if plain_tied(picture, way[-1], cell) and frozenset((way[-1], cell)) not in used]
    return tuple(sorted(found))


def thin_pictures():
    some = [picture for picture in pictures_within(3, 4)[::3] if not plain_squares(picture)]
    chance = random.Random(1)
    for _ in range(60):
        picture = ()
        for _ in range(30):
            more = picture_of(picture + ((chance.randrange(7), chance.randrange(7)),))
            picture = picture if plain_squares(more) else more
        some.append(picture)
    return some + [T, RING, EIGHT, LOLLY, MAZE, (), ((3, 3),), CORNERS, RINGS, shifted(MAZE, -10 ** 6, 10 ** 6 - 7)]


THIN = thin_pictures()


class Ties(unittest.TestCase):
    def test_of_all_pictures(self):
        for picture in pictures_within(3, 3) + some_pictures(2, 10, 6) + [T, RING, MAZE]:
            told = tuple((one, other) for one in picture for other in picture
                         if one < other and plain_tied(picture, one, other))
            self.assertEqual(ties(picture), told)
            self.assertEqual(squares(picture), plain_squares(picture))
            self.assertIs(is_thin(picture), plain_squares(picture) == ())
            for cell in picture:
                self.assertEqual(tied_to(picture, cell), tuple(o for o in picture if plain_tied(picture, cell, o)))
            left = len(picture) - len(ties(picture)) + len(squares(picture))
            self.assertEqual(left, len(pieces(picture)) - len(holes(picture)))

    def test_edges(self):
        self.assertEqual((ties(()), squares(()), is_thin(())), ((), (), True))
        self.assertEqual((ties(((5, 5),)), tied_to(((5, 5),), (5, 5))), ((), ()))
        self.assertEqual(ties(((0, 0), (1, 1))), (((0, 0), (1, 1)),))
        self.assertEqual(tied_to(((0, 0), (1, 0), (1, 1)), (0, 0)), ((1, 0),))
        block = tuple((x, y) for x in range(3) for y in range(3))
        self.assertEqual(squares(block), ((0, 0), (0, 1), (1, 0), (1, 1)))
        self.assertEqual(len(ties(block)), 12)


class Webs(unittest.TestCase):
    def test_of_all_thin_pictures(self):
        for picture in THIN:
            knots = plain_knots(picture)
            self.assertEqual(web_of(picture), (knots, plain_ways(picture, knots)))
            self.assertEqual(cells_of_web(web_of(picture)), picture)
            self.assertIsNone(judge_web(picture, web_of(picture)))

    def test_edges(self):
        self.assertEqual(web_of(()), ((), ()))
        self.assertEqual(cells_of_web(((), ())), ())
        self.assertEqual(web_of(((3, 3),)), (((3, 3),), ()))
        # A way from a knot to itself, written in the lesser direction.
        self.assertEqual(web_of(LOLLY), (((3, 1), (4, 1)), (((3, 1), (2, 0), (1, 1), (2, 2), (3, 1)), ((3, 1), (4, 1)))))
        # Two rings, one of them about the other.
        inner = ((0, 0), (1, -1), (1, 1), (2, 0))
        outer = tuple((x, y) for x in range(-2, 5) for y in range(-3, 4) if x in (-2, 4) or y in (-3, 3))
        knots, ways = web_of(picture_of(inner + outer))
        self.assertEqual((knots, [len(way) for way in ways]), (((-2, -3), (0, 0)), [25, 5]))

    def test_loops_are_holes(self):
        for picture in THIN:
            web = web_of(picture)
            self.assertEqual(loops(web), len(holes(picture)))
            self.assertEqual(len(web[1]) - loops(web), len(web[0]) - len(pieces(picture)))
            counts = [branches(web, knot) for knot in web[0]]
            self.assertEqual(sum(counts), 2 * len(web[1]))
            self.assertEqual(counts, [len(tied_to(picture, knot)) for knot in web[0]])
            kinds = kinds_of_knots(web)
            self.assertEqual(kinds, (counts.count(0), counts.count(1), counts.count(2), len([n for n in counts if n > 2])))

    def test_kinds_of_knots(self):
        self.assertEqual(kinds_of_knots(((), ())), (0, 0, 0, 0))
        self.assertEqual(loops(((), ())), 0)
        web = web_of(picture_of(LOLLY + ((9, 9),) + shifted(RING, 20, 20)))
        self.assertEqual(kinds_of_knots(web), (1, 1, 1, 1))
        self.assertEqual((branches(web, (3, 1)), branches(web, (19, 20)), branches(web, (9, 9)), loops(web)), (3, 2, 0, 2))

    def test_bones_of_safe_rules(self):
        simple = ("both", (("simple",), ("count", 2, 8)))
        rule = safe_within(made_rule(3, 3, ((simple,) * 9,) * 3), ())
        for picture in some_pictures(3, 10, 8) + [RINGS]:
            left = bones(rule, picture)
            if is_thin(left):
                self.assertEqual(loops(web_of(left)), len(holes(picture)))


class WrongWebs(unittest.TestCase):
    def test_form(self):
        knots, ways = web_of(T)
        for wrong in (None, (knots,), (knots, ways, ()), [knots, ways], (list(knots), ways), (knots, list(ways)),
                      (knots[::-1], ways), (knots + knots[-1:], ways), (knots, ways[::-1]), (knots, ways[:1] * 2),
                      (knots, ((knots[0],),)), (knots, ((),)), (knots, (list(ways[0]),)), (knots, (5,)), (knots, None),
                      (knots, (((0, 0), (1, True)),)), (((0, 0), (True, 0)), ways), (knots, (((0, 0), [1, 0]),)),
                      (knots, (((0, 0), (1, 0, 0)),)), (0, ways), ({}, ways)):
            self.assertEqual(judge_web(T, wrong), ("form",))
        for value in ODD_VALUES + (nested(40), (nested(39), ()), ((), nested(39))):
            self.assertEqual(judge_web(T, value), ("form",))

    def test_knot(self):
        knots, ways = web_of(T)
        self.assertEqual(judge_web(T, (knots[1:], ways)), ("knot", (0, 0)))
        self.assertEqual(judge_web(T, (knots[:2] + knots[3:], ())), ("knot", (1, 1)))
        self.assertEqual(judge_web(T, (((-5, 0),) + knots[1:], ())), ("knot", (-5, 0)))
        self.assertEqual(judge_web(T, (knots + ((7, 7),), ())), ("knot", (7, 7)))
        self.assertEqual(judge_web((), (((0, 0),), ())), ("knot", (0, 0)))

    def test_way(self):
        knots, ways = web_of(T)
        self.assertEqual(judge_web(T, (knots, (ways[0], ways[2], ways[1][::-1]))), ("way", 2))
        self.assertEqual(judge_web(T, (knots, ways[:2] + (((2, 0), (9, 9)),))), ("way", 2))
        ring = web_of(RING)
        self.assertEqual(judge_web(RING, (ring[0], (ring[1][0][::-1],))), ("way", 0))
        self.assertEqual(judge_web(RING, (ring[0], (ring[1][0][1:] + ring[1][0][1:2],))), ("way", 0))
        web = web_of(LOLLY)
        self.assertEqual(judge_web(LOLLY, (web[0], (web[1][0] + ((4, 1),), web[1][1]))), ("way", 0))

    def test_lacks(self):
        knots, ways = web_of(T)
        self.assertEqual(judge_web(T, (knots, ways[:1])), ("lacks", ways[1]))
        self.assertEqual(judge_web(T, (knots, ways[:1] + ways[2:])), ("lacks", ways[1]))
        self.assertEqual(judge_web(T, (knots, ())), ("lacks", ways[0]))


class SidesOfWays(unittest.TestCase):
    def test_along_all_ties(self):
        for picture in THIN[::3] + [EIGHT, LOLLY, MAZE, CORNERS, RINGS]:
            for way in web_of(picture)[1]:
                left, right = sides(picture, way)
                self.assertIs(is_bridge(picture, way), left == right)
                self.assertEqual(sides(picture, way[::-1]), (right, left))
                for (x, y), (u, v) in zip(way, way[1:]):
                    for cell in [(i, j) for i in range(x - 2, x + 3) for j in range(y - 2, y + 3)]:
                        side = (u - x) * (cell[1] - y) - (v - y) * (cell[0] - x)
                        if cell not in picture and side and is_near(cell, (x, y)) and is_near(cell, (u, v)):
                            place = place_of(picture, cell)
                            self.assertEqual(place[1] if place[0] == "hole" else None, left if side > 0 else right)

    def test_turned_ways(self):
        for t in range(8):
            picture = posed(RING, t)
            way = web_of(picture)[1][0]
            self.assertEqual(sorted(sides(picture, way), key=str), [(0, 0), None])
            area = sum(x * v - y * u for (x, y), (u, v) in zip(way, way[1:]))
            self.assertEqual(sides(picture, way)[0 if area > 0 else 1], (0, 0))

    def test_bridges(self):
        self.assertEqual(sides(RING, web_of(RING)[1][0]), ((0, 0), None))
        inner = shifted(RING, 1, 1)
        about = tuple((x, y) for x in range(-3, 6) for y in range(-3, 6) if x in (-3, 5) or y in (-3, 5))
        picture = picture_of(inner + about + ((3, 1), (4, 1)))
        told = {way[0]: (sides(picture, way), is_bridge(picture, way)) for way in web_of(picture)[1] if len(way) > 2}
        self.assertEqual(told[(2, 1)], (((-2, -2), (-2, -2)), True))
        self.assertEqual(is_bridge(T, ((0, 0), (1, 0))), True)

    def test_inner_cells(self):
        for picture in THIN[::4] + [EIGHT, LOLLY, MAZE]:
            now = (len(pieces(picture)), len(holes(picture)))
            for way in web_of(picture)[1]:
                for one, cell, other in zip(way, way[1:], way[2:]):
                    left = without_cell(picture, cell)
                    if is_near(one, other):
                        self.assertTrue(is_simple(picture, cell))
                    else:
                        rise = (1, 0) if is_bridge(picture, way) else (0, -1)
                        self.assertEqual((len(pieces(left)) - now[0], len(holes(left)) - now[1]), rise)


if __name__ == "__main__":
    unittest.main()
