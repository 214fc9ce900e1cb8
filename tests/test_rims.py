"""boneways/rims.py: points 10.1 to 10.5."""

import random
import unittest
from itertools import product

from boneways.pictures import picture_of, shifted, taken_out
from boneways.pieces import holes, pieces, place_of
from boneways.rims import (
    is_outer, judge_rims, next_side, picture_of_rims, picture_sides, rim_about, rim_area, rim_box, rim_length,
    rim_of_hole, rim_of_piece, rim_sides, rim_turns, rims, rims_of_piece)
from boneways.tree import parent_of
from tests.plain import ODD_VALUES, drawn, is_beside, nested, pictures_within
from tests.test_pieces import CORNERS, RINGS, some_pictures

STEPS = ((1, 0), (0, 1), (-1, 0), (0, -1))
HOOK = ((0, 0), (0, 1), (1, 0))
RING = taken_out(tuple(product(range(3), repeat=2)), ((1, 1),))
ONE = ((0, 0), (0, 1, 2, 3))
# Two holes that meet at a corner, in one piece; a piece in a hole that touches nothing.
TWO_HOLES = drawn(
    "####.",
    "#.##.",
    "##.##",
    "####.")


def all_pictures():
    return pictures_within(3, 3) + some_pictures(1, 25, 6) + [RINGS, CORNERS, RING, HOOK, TWO_HOLES, ((-5, 9),),
                                                              shifted(RINGS, -99, 10 ** 6)]


def plain_sides(picture):
    """One side for each black cell and each white cell beside it, the black one on the left."""
    told = []
    for x, y in picture:
        for corner, d, white in (((x, y), 0, (x, y - 1)), ((x + 1, y), 1, (x + 1, y)),
                                 ((x + 1, y + 1), 2, (x, y + 1)), ((x, y + 1), 3, (x - 1, y))):
            if white not in picture:
                told.append((corner, d))
    return sorted(told)


def about(side):
    """The cells on the left and on the right of a side, found by halves of a step."""
    (x, y), d = side
    dx, dy = STEPS[d]
    left = (2 * x + dx - dy - 1) // 2, (2 * y + dy + dx - 1) // 2
    return left, ((2 * x + dx + dy - 1) // 2, (2 * y + dy - dx - 1) // 2)


def plain_next(sides, side):
    (x, y), d = side
    corner = (x + STEPS[d][0], y + STEPS[d][1])
    return next((corner, (d + turn) % 4) for turn in (-1, 0, 1) if (corner, (d + turn) % 4) in sides)


def plain_rims(picture):
    left = plain_sides(picture)
    sides = set(left)
    told = []
    while left:
        row = [left[0]]
        while plain_next(sides, row[-1]) != row[0]:
            row.append(plain_next(sides, row[-1]))
        left = [side for side in left if side not in row]
        told.append((row[0][0], tuple(d for _, d in row)))
    return tuple(sorted(told))


def plain_picture(value, frame):
    """Point 10.4, word for word, for the cells of a frame: the dict of falling ones less rising ones."""
    told = [side for rim in value for side in rim_sides(rim)]
    return {(x, y): sum((d == 3 and at[1] - 1 == y and at[0] <= x) - (d == 1 and at[1] == y and at[0] <= x)
                        for at, d in told) for x, y in frame}


class Sides(unittest.TestCase):
    def test_picture_sides(self):
        for picture in all_pictures():
            sides = picture_sides(picture)
            self.assertEqual(sides, tuple(plain_sides(picture)))
            for side in sides:
                left, right = about(side)
                self.assertTrue(left in picture and right not in picture and is_beside(left, right))
                self.assertEqual(next_side(picture, side), plain_next(set(sides), side))
        self.assertEqual(picture_sides(()), ())

    def test_next_side_of_cells_that_touch_at_a_corner(self):
        lean, back = ((0, 0), (1, 1)), ((0, 1), (1, 0))
        self.assertEqual(next_side(lean, ((1, 0), 1)), ((1, 1), 0))
        self.assertEqual(next_side(lean, ((1, 2), 3)), ((1, 1), 2))
        self.assertEqual(next_side(back, ((2, 1), 2)), ((1, 1), 1))
        self.assertEqual(next_side(back, ((0, 1), 0)), ((1, 1), 3))


class Rims(unittest.TestCase):
    def test_rims(self):
        for picture in all_pictures():
            told = rims(picture)
            self.assertEqual(told, plain_rims(picture))
            self.assertEqual(sorted(side for rim in told for side in rim_sides(rim)), plain_sides(picture))
            for rim in told:
                row = rim_sides(rim)
                self.assertEqual((row[0], rim_length(rim)), (min(row), len(row)))
                self.assertEqual([plain_next(set(plain_sides(picture)), side) for side in row], list(row[1:] + row[:1]))
                xs, ys = [at[0] for at, _ in row], [at[1] for at, _ in row]
                self.assertEqual(rim_box(rim), (min(xs), min(ys), max(xs), max(ys)))

    def test_areas_and_turns(self):
        for picture in all_pictures():
            told = rims(picture)
            self.assertEqual(sum(rim_area(rim) for rim in told), len(picture))
            outer = [rim for rim in told if is_outer(rim)]
            self.assertEqual((len(outer), len(told) - len(outer)), (len(pieces(picture)), len(holes(picture))))
            for rim in told:
                self.assertEqual(rim_turns(rim), 4 if rim in outer else -4)
                heights = [y if d == 2 else -y if d == 0 else 0 for (_, y), d in rim_sides(rim)]
                self.assertEqual(rim_area(rim), sum(heights))
                # Each rim begins to the right where it is outer, else upwards.
                self.assertEqual(rim[1][0], 0 if rim in outer else 1)

    def test_edges(self):
        self.assertEqual(rims(()), ())
        self.assertEqual(rims(((7, -2),)), (((7, -2), (0, 1, 2, 3)),))
        self.assertEqual((rim_length(ONE), rim_box(ONE), rim_area(ONE), rim_turns(ONE)), (4, (0, 0, 1, 1), 1, 4))
        self.assertEqual(rim_sides(ONE), (((0, 0), 0), ((1, 0), 1), ((1, 1), 2), ((0, 1), 3)))
        self.assertEqual(len(rims(TWO_HOLES)), 3)
        self.assertEqual([rim_area(rim) for rim in rims(CORNERS)], [9, -1, -1])
        self.assertEqual([rim_area(rim) for rim in rims(RINGS)], [81, -49, 25, -9, 1])


class PicturesOfRims(unittest.TestCase):
    def test_pictures_come_back(self):
        for picture in all_pictures():
            self.assertEqual(picture_of_rims(rims(picture)), picture)
            self.assertEqual(picture_of_rims(rims(picture)[::-1]), picture)
            self.assertIsNone(judge_rims(rims(picture)))
        self.assertEqual(picture_of_rims(()), ())

    def test_form(self):
        inner = rims(RING)[1]
        for wrong in (None, [ONE], ONE, (list(ONE),), (ONE + (0,),), (((0, 0), ()),), (((0, 0), [0, 1, 2, 3]),),
                      (((0, 0), (0, 1, 2, 4)),), (((0, 0), (0, -1, 2, 3)),), (((0, 0), (False, True, 2, 3)),),
                      (((0, True), (0, 1, 2, 3)),), (([0, 0], (0, 1, 2, 3)),), (((0, 0, 0), (0, 1, 2, 3)),),
                      (((0, 0), (0, None)),), (((0, 0), "0123"),), (ONE, inner, 5), (((0, 0), 7),), {ONE: ONE}):
            self.assertEqual(judge_rims(wrong), ("form",))
        for value in ODD_VALUES + (nested(40), (((0, 0), nested(38)),), ((nested(38), (0,)),)):
            self.assertEqual(judge_rims(value), None if value == () and isinstance(value, tuple) else ("form",))

    def test_open(self):
        self.assertEqual(judge_rims((ONE, ((5, 5), (0, 1)), ((5, 5), (0,)))), ("open", 1))
        self.assertEqual(judge_rims((((0, 0), (0, 1, 2)),)), ("open", 0))
        self.assertEqual(judge_rims((((0, 0), (0, 1, 1, 2)),)), ("open", 0))
        self.assertEqual(judge_rims((((0, 0), (0, 1, 3)), ONE)), ("open", 0))
        self.assertEqual(judge_rims((((0, 0), (0, 1, 2)), ONE)), ("open", 0))
        # It goes ahead of all other faults of the list.
        self.assertEqual(judge_rims((ONE, ONE, ((5, 5), (3,)))), ("open", 2))

    def test_twice(self):
        self.assertEqual(judge_rims((ONE, ONE)), ("twice", ((0, 0), 0)))
        self.assertEqual(judge_rims((((3, 3), (0, 1, 2, 3) * 2),)), ("twice", ((3, 3), 0)))
        wide = ((-1, 0), (0, 0, 1, 2, 2, 3))
        self.assertEqual(judge_rims((ONE, wide)), ("twice", ((0, 0), 0)))
        self.assertEqual(judge_rims((((1, 0), (1, 2, 3, 0)), wide)), ("twice", ((0, 0), 0)))

    def test_begin(self):
        for k in (1, 2, 3):
            word = ONE[1][k:] + ONE[1][:k]
            self.assertEqual(judge_rims((ONE, (rim_sides(((9, 9), ONE[1]))[k][0], word))), ("begin", 1))
        inner = rims(RING)[1]
        for k in (1, 2, 3):
            turned = (rim_sides(inner)[k][0], inner[1][k:] + inner[1][:k])
            self.assertEqual(judge_rims((rims(RING)[0], turned)), ("begin", 1))
        self.assertEqual(judge_rims((((5, 5), (2, 3, 0, 1)), ((1, 0), (1, 2, 3, 0)))), ("begin", 0))

    def test_sequence(self):
        self.assertEqual(judge_rims(rims(RING)[::-1]), ("sequence",))
        self.assertEqual(judge_rims((((4, 4), ONE[1]), ONE)), ("sequence",))

    def test_cell(self):
        inner = rims(RING)[1]
        self.assertEqual(judge_rims((inner,)), ("cell", (1, 1)))
        self.assertEqual(judge_rims((inner, ((9, 9), ONE[1]))), ("cell", (1, 1)))
        # Two that lie over one another, and one outside of all others told.
        great = ((-1, -1), (0, 0, 0, 1, 1, 1, 2, 2, 2, 3, 3, 3))
        self.assertEqual(judge_rims((great, ONE)), ("cell", (0, 0)))
        self.assertEqual(judge_rims((ONE, ((3, 0), (1, 0, 3, 2)), ((4, -4), (1, 0, 3, 2)))), ("cell", (3, 0)))
        hole = (1, 0, 3, 2)
        self.assertEqual(judge_rims((((3, 5), hole), ((4, 0), hole))), ("cell", (3, 5)))
        self.assertEqual(judge_rims((((3, 0), hole), ((3, 7), hole), ((4, -2), hole))), ("cell", (3, 0)))
        self.assertEqual(judge_rims((((3, -9), (1, 1, 0, 3, 3, 2)), ((4, -12), hole))), ("cell", (3, -9)))
        great = ((0, 0), (0,) * 10 + (1,) * 10 + (2,) * 10 + (3,) * 10)
        self.assertEqual(judge_rims((great, ((1, 5), ONE[1]), ((2, 1), ONE[1]))), ("cell", (1, 5)))
        # A word that goes forth and back is no rim of a picture either.
        self.assertEqual(judge_rims((((0, 0), (0, 2)),)), ("side", ((0, 0), 0)))
        self.assertEqual(judge_rims((((0, 0), (1, 3)),)), ("side", ((0, 0), 1)))

    def test_side(self):
        # Two cells side by side, each with its own rim.
        self.assertEqual(judge_rims((ONE, ((1, 0), ONE[1]))), ("side", ((1, 0), 1)))
        self.assertEqual(judge_rims((ONE, ((0, 1), ONE[1]))), ("side", ((0, 1), 0)))
        self.assertEqual(judge_rims((((0, 0), (0, 1, 0, 2, 2, 3)),)), ("side", ((1, 1), 0)))

    def test_turn(self):
        self.assertEqual(judge_rims((ONE, ((1, 1), ONE[1]))), ("turn", 0, 1))
        self.assertEqual(judge_rims((((0, 1), ONE[1]), ((1, 0), ONE[1]))), ("turn", 0, 0))
        # A rim that meets itself at a corner and goes straight over, and one that is told as two.
        corners = rims(CORNERS)
        self.assertIsNone(judge_rims(corners))
        told = rims(((0, 0), (1, 1), (2, 0)))
        self.assertEqual([rim_length(rim) for rim in told], [12])
        self.assertEqual(judge_rims((ONE, ((1, 1), ONE[1]), ((2, 0), ONE[1]))), ("turn", 0, 1))
        self.assertEqual(judge_rims((((0, 0), (0, 1, 0, 1, 2, 3, 2, 3)), ((2, 0), ONE[1]))), ("turn", 0, 2))
        # Two holes that meet at a corner are two rims, not one.
        block = taken_out(tuple(product(range(4), repeat=2)), ((1, 1), (2, 2)))
        outer, first, second = rims(block)
        both = ((1, 1), (1, 0, 1, 0, 3, 2, 3, 2))
        self.assertEqual((first, second), (((1, 1), (1, 0, 3, 2)), ((2, 2), (1, 0, 3, 2))))
        self.assertEqual(judge_rims((outer, both)), ("turn", 1, 1))

    def test_each_wrong_value_has_a_fault(self):
        chance = random.Random(2)
        pictures = [picture for picture in all_pictures() if picture]
        for _ in range(400):
            told = [[corner, list(word)] for corner, word in rims(chance.choice(pictures))]
            k = chance.randrange(len(told))
            way = chance.randrange(4)
            if way == 0:
                told[k][1][chance.randrange(len(told[k][1]))] = chance.randrange(4)
            elif way == 1:
                del told[k]
            elif way == 2:
                told.append(told[k])
            else:
                told[k][0] = (told[k][0][0] + chance.randrange(2), told[k][0][1])
            value = tuple((corner, tuple(word)) for corner, word in told)
            fault = judge_rims(value)
            frame = product(range(-7, 12), repeat=2)
            if any(abs(number) > 7 for corner, _ in value for number in corner) or (fault and fault[0] == "open"):
                continue
            counts = plain_picture(value, frame)
            right = value == rims(picture_of([cell for cell in counts if counts[cell] > 0]))
            self.assertEqual(fault is None, right)
            if fault and fault[0] in ("cell", "side", "turn"):
                odd = sorted(cell for cell in counts if counts[cell] not in (0, 1))
                self.assertEqual(fault == ("cell", odd[0]) if odd else fault[0] != "cell", True)


class RimsOfPlaces(unittest.TestCase):
    def test_of_pieces_and_holes(self):
        for picture in pictures_within(3, 3)[::3] + some_pictures(3, 8, 6) + [RINGS, CORNERS, TWO_HOLES]:
            told = rims(picture)
            lefts = {rim: {place_of(picture, about(side)[0]) for side in rim_sides(rim)} for rim in told}
            rights = {rim: {place_of(picture, about(side)[1]) for side in rim_sides(rim)} for rim in told}
            for cell in picture:
                mine = [rim for rim in told if lefts[rim] == {place_of(picture, cell)}]
                outer = [rim for rim in mine if is_outer(rim)]
                self.assertEqual([rim_of_piece(picture, cell)], outer)
                self.assertEqual(rims_of_piece(picture, cell), tuple(mine))
            for hole in holes(picture):
                for cell in hole:
                    mine = [rim for rim in told if rights[rim] == {place_of(picture, cell)} and not is_outer(rim)]
                    self.assertEqual([rim_of_hole(picture, cell)], mine)
            for k, rim in enumerate(told):
                if is_outer(rim):
                    parent = parent_of(picture, *lefts[rim])
                    mine = [j for j in range(len(told)) if rights[told[j]] == {parent} and not is_outer(told[j])]
                else:
                    mine = [j for j in range(len(told)) if lefts[told[j]] == lefts[rim] and is_outer(told[j])]
                self.assertEqual(rim_about(picture, k), mine[0] if mine else None)

    def test_rings_within_rings(self):
        self.assertEqual([rim_about(RINGS, k) for k in range(5)], [None, 0, 1, 2, 3])
        self.assertEqual(rims_of_piece(RINGS, (0, 5)), rims(RINGS)[:2])
        self.assertEqual(rims_of_piece(RINGS, (4, 4)), rims(RINGS)[4:])
        self.assertEqual(rim_of_hole(RINGS, (1, 1)), rims(RINGS)[1])
        self.assertEqual(rim_of_hole(RINGS, (5, 5)), rims(RINGS)[3])
        self.assertIsNone(rim_of_hole(RINGS, (-1, 4)))
        self.assertIsNone(rim_of_hole((), (0, 0)))


if __name__ == "__main__":
    unittest.main()
