"""boneways/boxes.py: points 9.1 to 9.4, and ridge of 9.6."""

import random
import unittest
from itertools import combinations, product

from boneways.boxes import (
    box_cells, box_depths, depth_between, diamond_cells, fewest_boxes, greatest_boxes, greatest_diamonds, judge_boxes,
    kept_boxes, needed_boxes, picture_of_boxes, picture_of_diamonds, ridge, step_depths)
from boneways.pictures import picture_of, shifted
from tests.plain import ODD_VALUES, drawn, is_beside, is_near, nested, pictures_within
from tests.test_pieces import CORNERS, RINGS, some_pictures

WIDE = picture_of([(x, y) for x in range(5) for y in range(3)])
FLAG = picture_of([(x, y) for x in range(3) for y in range(3)] + [(3, 1)])
BLOT = drawn(
    ".######...",
    "########..",
    "###########",
    "########.#.",
    ".#######...",
    ".######....",
    "..###......")

# Long ones, in which many boxes lie over one another, whole and with some cells out.
STRIPS = [tuple((x, y) for x, y in product(range(wide), range(high)) if (x, y) not in left)
          for wide, high, left in ((7, 3, ()), (9, 3, ()), (3, 8, ()), (9, 5, ()), (7, 5, ()), (9, 5, ((0, 0), (8, 4))),
                                   (8, 5, ((0, 4), (3, 0))), (10, 3, ((4, 0),)), (6, 5, ((0, 0), (0, 1), (5, 4))))]


def across(one, other):
    return max(abs(one[0] - other[0]), abs(one[1] - other[1]))


def along(one, other):
    return abs(one[0] - other[0]) + abs(one[1] - other[1])


def plain_depth(picture, cell, joins):
    """The least number of steps to a white cell, ring by ring."""
    seen, ring, depth = {cell}, [cell], 0
    while all(each in picture for each in ring):
        ring = [(x, y) for x in range(cell[0] - depth - 1, cell[0] + depth + 2)
                for y in range(cell[1] - depth - 1, cell[1] + depth + 2)
                if (x, y) not in seen and any(joins((x, y), each) for each in ring)]
        seen |= set(ring)
        depth += 1
    return depth


def plain_cells(middle, r, measure):
    """All cells at most r - 1 steps from a cell, by the measure of these steps."""
    x, y = middle
    return tuple((i, j) for i in range(x - r, x + r + 1) for j in range(y - r, y + r + 1) if measure((i, j), middle) < r)


def plain_greatest(picture, measure):
    """All that lie in the picture and in no other one, compared by their cells."""
    within = []
    for cell in picture:
        r = 1
        while set(plain_cells(cell, r, measure)) <= set(picture):
            within.append(((cell, r), set(plain_cells(cell, r, measure))))
            r += 1
    return tuple(sorted(one for one, cells in within if not any(cells < others for _, others in within)))


def plain_cover(boxes):
    return picture_of([cell for middle, r in boxes for cell in plain_cells(middle, r, across)])


def all_pictures():
    return pictures_within(3, 4)[::7] + some_pictures(1, 12, 6) + [WIDE, FLAG, BLOT, RINGS, CORNERS, (), ((-9, 5),)]


class Depths(unittest.TestCase):
    def test_depths(self):
        for picture in all_pictures() + [shifted(BLOT, -40, 999)]:
            self.assertEqual(box_depths(picture), tuple((cell, plain_depth(picture, cell, is_near)) for cell in picture))
            self.assertEqual(step_depths(picture), tuple((cell, plain_depth(picture, cell, is_beside)) for cell in picture))

    def test_edges(self):
        self.assertEqual((step_depths(()), box_depths(())), ((), ()))
        self.assertEqual((step_depths(((7, 7),)), box_depths(((7, 7),))), ((((7, 7), 1),), (((7, 7), 1),)))
        # A white cell at a corner alone: one near step, two steps side by side.
        block = tuple(cell for cell in product(range(-1, 2), repeat=2) if cell != (1, 1))
        self.assertEqual(dict(box_depths(block))[(0, 0)], 1)
        self.assertEqual(dict(step_depths(block))[(0, 0)], 2)
        self.assertEqual(max(box_depths(tuple(product(range(20), repeat=2))), key=lambda told: told[1]), ((9, 9), 10))

    def test_depth_between(self):
        for one, other in product(product(range(-2, 3), (-3, 0, 5)), repeat=2):
            self.assertEqual(depth_between(one, other, True), across(one, other))
            self.assertEqual(depth_between(one, other, False), along(one, other))
        self.assertEqual(depth_between((4, 4), (4, 4), True), 0)
        self.assertEqual(depth_between((0, 0), (-3, 2), False), 5)


class Boxes(unittest.TestCase):
    def test_cells(self):
        for middle in ((0, 0), (5, -7), (-10 ** 9, 10 ** 9)):
            for r in (1, 2, 3, 7):
                self.assertEqual(box_cells((middle, r)), plain_cells(middle, r, across))
                self.assertEqual(diamond_cells((middle, r)), plain_cells(middle, r, along))
        self.assertEqual(len(box_cells(((1, 1), 40))), 79 * 79)
        self.assertEqual(diamond_cells(((5, 5), 1)), ((5, 5),))

    def test_boxes_lie_in_the_picture_and_in_one_another(self):
        for picture in (BLOT, RINGS):
            steps, boxes = dict(step_depths(picture)), dict(box_depths(picture))
            for cell in picture:
                for r in (1, 2, 3, 4):
                    self.assertEqual(set(box_cells((cell, r))) <= set(picture), r <= boxes[cell])
                    self.assertEqual(set(diamond_cells((cell, r))) <= set(picture), r <= steps[cell])
        for other, r, s in product(product(range(-3, 4), repeat=2), (1, 2, 3), (1, 2, 3, 4)):
            here = set(box_cells(((0, 0), r))) <= set(box_cells((other, s)))
            self.assertEqual(here, depth_between((0, 0), other, True) <= s - r)
            here = set(diamond_cells(((0, 0), r))) <= set(diamond_cells((other, s)))
            self.assertEqual(here, depth_between((0, 0), other, False) <= s - r)

    def test_greatest(self):
        for picture in all_pictures():
            self.assertEqual(greatest_boxes(picture), plain_greatest(picture, across))
            self.assertEqual(greatest_diamonds(picture), plain_greatest(picture, along))
            self.assertEqual(picture_of_boxes(greatest_boxes(picture)), picture)
            self.assertEqual(picture_of_diamonds(greatest_diamonds(picture)), picture)
            self.assertEqual(ridge(picture), tuple(middle for middle, _ in plain_greatest(picture, across)))

    def test_pictures_of_boxes_in_any_sequence(self):
        chance = random.Random(2)
        for _ in range(40):
            told = [((chance.randrange(9), chance.randrange(9)), chance.randrange(1, 6)) for _ in range(chance.randrange(6))]
            self.assertEqual(picture_of_boxes(told), plain_cover(told))
            self.assertEqual(picture_of_boxes(tuple(told * 2)), plain_cover(told))
            here = picture_of([cell for middle, r in told for cell in plain_cells(middle, r, along)])
            self.assertEqual(picture_of_diamonds(told), here)
        self.assertEqual((picture_of_boxes([]), picture_of_diamonds(())), ((), ()))


class Judges(unittest.TestCase):
    def test_right_ones(self):
        for picture in all_pictures():
            self.assertIsNone(judge_boxes(picture, greatest_boxes(picture)))

    def test_form(self):
        good = greatest_boxes(FLAG)
        for wrong in (list(good), good[::-1], good + good[-1:], (((1, 1), 0),), (((1, 1), -2),), (((1, 1), True),),
                      (((1, True), 2),), ((1, 1, 2),), (((1, 1),),), (((1, 1), 2, 0),), ([(1, 1), 2],), (([1, 1], 2),),
                      (((1, 1), None),), (((1, 1), "2"),), good + (None,), 5, "boxes", (((1, 1), (2,)),)):
            self.assertEqual(judge_boxes(FLAG, wrong), ("form",))
        for value in ODD_VALUES + (nested(40), ((nested(38), 1),)):
            told = ("left", ((1, 1), 2)) if value == () and isinstance(value, tuple) else ("form",)
            self.assertEqual(judge_boxes(FLAG, value), told)
        self.assertIsNone(judge_boxes((), ()))

    def test_out(self):
        self.assertEqual(judge_boxes(FLAG, (((1, 1), 2), ((1, 2), 2), ((9, 9), 1))), ("out", ((1, 2), 2)))
        self.assertEqual(judge_boxes(FLAG, (((0, 0), 1), ((9, 9), 1))), ("out", ((9, 9), 1)))
        self.assertEqual(judge_boxes(FLAG, (((1, 1), 10 ** 59),)), ("out", ((1, 1), 10 ** 59)))
        self.assertEqual(judge_boxes((), (((0, 0), 1),)), ("out", ((0, 0), 1)))

    def test_less(self):
        # Less than the greatest of its own cell, and less than one of another cell, told or not.
        self.assertEqual(judge_boxes(FLAG, (((1, 1), 1), ((3, 1), 1))), ("less", ((1, 1), 1)))
        self.assertEqual(judge_boxes(FLAG, (((1, 1), 1), ((1, 1), 2))), ("less", ((1, 1), 1)))
        self.assertEqual(judge_boxes(FLAG, (((1, 2), 1), ((2, 2), 1))), ("less", ((1, 2), 1)))
        self.assertEqual(judge_boxes(FLAG, (((1, 1), 2), ((2, 1), 1), ((3, 1), 1))), ("less", ((2, 1), 1)))

    def test_left(self):
        self.assertEqual(judge_boxes(FLAG, (((3, 1), 1),)), ("left", ((1, 1), 2)))
        self.assertEqual(judge_boxes(WIDE, (((1, 1), 2), ((3, 1), 2))), ("left", ((2, 1), 2)))


class Spared(unittest.TestCase):
    def test_needed_boxes(self):
        for picture in all_pictures():
            boxes = greatest_boxes(picture)
            told = tuple(box for box in boxes if plain_cover([each for each in boxes if each != box]) != picture)
            self.assertEqual(needed_boxes(picture), told)

    def test_kept_boxes(self):
        chance = random.Random(3)
        for picture in all_pictures() + STRIPS:
            boxes = greatest_boxes(picture)
            for order in (boxes, boxes[::-1]) + tuple(tuple(chance.sample(boxes, len(boxes))) for _ in range(3)):
                left = list(boxes)
                for box in order:
                    if plain_cover([each for each in left if each != box]) == picture:
                        left.remove(box)
                self.assertEqual(kept_boxes(picture, order), tuple(left))
                self.assertLessEqual(set(needed_boxes(picture)), set(left))

    def test_orders(self):
        one, two, three = greatest_boxes(WIDE)
        self.assertEqual(kept_boxes(WIDE, (two, one, three)), (one, three))
        bar = tuple(product(range(4), range(3)))
        self.assertEqual(kept_boxes(bar, greatest_boxes(bar)), greatest_boxes(bar))
        block = tuple(product(range(4), range(4)))
        told = {kept_boxes(block, order) for order in (greatest_boxes(block), greatest_boxes(block)[::-1])}
        self.assertEqual(told, {greatest_boxes(block)})
        even = tuple(product(range(2), range(3)))
        self.assertEqual(kept_boxes(even, greatest_boxes(even)[::-1]), greatest_boxes(even))

    def test_fewest_boxes(self):
        chance = random.Random(4)
        begun = [WIDE, FLAG, (), ((3, 3),), tuple(product(range(7), range(3))), tuple(product(range(4), range(5)))]
        for _ in range(25):
            lots = [((chance.randrange(8), chance.randrange(5)), chance.choice((1, 2, 2, 3))) for _ in range(4)]
            begun.append(plain_cover(lots))
        for picture in begun + STRIPS:
            boxes = greatest_boxes(picture)
            if len(boxes) <= 12:
                right = next(lot for many in range(13) for lot in combinations(boxes, many) if plain_cover(lot) == picture)
                self.assertEqual(fewest_boxes(picture), right)
        strip = tuple(product(range(14), range(3)))
        self.assertEqual(len(greatest_boxes(strip)), 12)
        self.assertEqual(fewest_boxes(strip), tuple(((x, 1), 2) for x in (1, 3, 6, 9, 12)))


if __name__ == "__main__":
    unittest.main()
