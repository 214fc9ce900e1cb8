"""boneways/pictures.py: points 1.1 to 1.4."""

import random
import unittest

from boneways.pictures import (
    apart, at_home, beside, blown, box_of, flipped, is_cell, is_picture, least_pose, lies_in, mirrored, near_cells,
    picture_of, pose_between, posed, poses, quarter_turned, shared, shift_between, shifted, side_cells, taken_out,
    unblown, united, unlike_cells, within_box)
from tests.plain import ODD_VALUES, drawn, is_beside, is_near, nested, pictures_within

HOOK = ((0, 0), (0, 1), (1, 0))
FAR = 10 ** 9 - 1
SMALL = pictures_within(3, 2)


def some_pictures(seed, many=40):
    chance = random.Random(seed)
    made = [()]
    for _ in range(many):
        side = chance.randrange(1, 7)
        cells = [(chance.randrange(-side, side), chance.randrange(-side, side)) for _ in range(side * side)]
        made.append(picture_of(cells))
    return made


class Cells(unittest.TestCase):
    def test_is_cell(self):
        for cell in ((0, 0), (-5, 7), (FAR, -FAR), (10 ** 59, -10 ** 59)):
            self.assertIs(is_cell(cell), True)
        for value in ([0, 0], (0,), (0, 0, 0), (True, 0), (0, False), ("0", 0), (0, None), (0, (0,)), ((0, 0),)):
            self.assertIs(is_cell(value), False)

    def test_is_picture(self):
        for picture in ((), ((0, 0),), HOOK, ((-1, 5), (0, -9), (0, 10 ** 59))):
            self.assertIs(is_picture(picture), True)
        wrong = ([], [(0, 0)], ([0, 0],), ((0, 0), (0, 0)), ((0, 1), (0, 0)), ((0, 0), (False, 1)), ((True, 0),),
                 ((0, 0), None), (None,), ((0, 0), (0, 1, 2)), (0, 0), {(0, 0): 1}, "", None, HOOK[::-1])
        for value in wrong:
            self.assertIs(is_picture(value), False)

    def test_any_value_is_looked_at(self):
        for value in ODD_VALUES + (nested(40),):
            self.assertIn(is_cell(value), (True, False))
            self.assertIn(is_picture(value), (True, False))

    def test_picture_of(self):
        cells = [(1, 0), (0, 1), (1, 0), (-3, 2)]
        self.assertEqual(picture_of(cells), ((-3, 2), (0, 1), (1, 0)))
        self.assertEqual(cells, [(1, 0), (0, 1), (1, 0), (-3, 2)])
        self.assertEqual(picture_of(tuple(cells)), picture_of(cells))
        self.assertEqual(picture_of([]), ())

    def test_side_and_near_cells(self):
        self.assertEqual(side_cells((5, -2)), ((6, -2), (5, -1), (4, -2), (5, -3)))
        self.assertEqual(near_cells((0, 0)), ((1, 0), (1, 1), (0, 1), (-1, 1), (-1, 0), (-1, -1), (0, -1), (1, -1)))
        for cell in ((0, 0), (FAR, -FAR)):
            self.assertTrue(all(is_beside(cell, side) for side in side_cells(cell)))
            self.assertTrue(all(is_near(cell, near) for near in near_cells(cell)))
            self.assertEqual(len(set(near_cells(cell))), 8)


class Two(unittest.TestCase):
    def test_all_small_pairs(self):
        for one in SMALL[::3]:
            for other in SMALL[::2]:
                a, b = set(one), set(other)
                self.assertEqual(united(one, other), tuple(sorted(a | b)))
                self.assertEqual(shared(one, other), tuple(sorted(a & b)))
                self.assertEqual(taken_out(one, other), tuple(sorted(a - b)))
                self.assertEqual(unlike_cells(one, other), tuple(sorted(a ^ b)))
                self.assertIs(lies_in(one, other), a <= b)
                near = any(is_near(c, d) or c == d for c in one for d in other)
                self.assertIs(apart(one, other), not near)

    def test_flipped(self):
        self.assertEqual(flipped(HOOK, (0, 0)), ((0, 1), (1, 0)))
        self.assertEqual(flipped(HOOK, (-4, 0)), ((-4, 0),) + HOOK)
        self.assertEqual(flipped((), (FAR, FAR)), ((FAR, FAR),))

    def test_apart(self):
        self.assertIs(apart((), ()), True)
        self.assertIs(apart(HOOK, ()), True)
        self.assertIs(apart(HOOK, HOOK), False)
        self.assertIs(apart(((0, 0),), ((1, 1),)), False)
        self.assertIs(apart(((0, 0),), ((2, 1),)), True)

    def test_beside(self):
        for one in SMALL[1:]:
            for other in SMALL[1::5]:
                moved = beside(shifted(one, -7, 30), other)
                self.assertIsNotNone(shift_between(other, moved))
                self.assertEqual(box_of(moved)[0], box_of(one)[2] - 7 + 2)
                self.assertEqual(box_of(moved)[1], box_of(one)[1] + 30)
                self.assertTrue(apart(shifted(one, -7, 30), moved))


class Boxes(unittest.TestCase):
    def test_box_of(self):
        self.assertIsNone(box_of(()))
        self.assertEqual(box_of(((4, -4),)), (4, -4, 4, -4))
        self.assertEqual(box_of(((-2, 8), (0, -1), (3, 2))), (-2, -1, 3, 8))

    def test_within_box(self):
        self.assertEqual(within_box(()), ())
        self.assertEqual(within_box(((4, 4),)), ())
        self.assertEqual(within_box(((0, 0), (1, 1))), ((0, 1), (1, 0)))
        self.assertEqual(len(within_box(((0, 0), (99, 99)))), 9998)


class Turns(unittest.TestCase):
    def test_quarter_turned(self):
        self.assertEqual(quarter_turned(((1, 2),), 1), ((-2, 1),))
        self.assertEqual(quarter_turned(((1, 2),), 2), ((-1, -2),))
        self.assertEqual(quarter_turned(((1, 2),), -1), ((2, -1),))
        for picture in some_pictures(1, 10):
            for k in (-9, -4, 0, 3, 4, 10 ** 20 + 1):
                self.assertEqual(quarter_turned(picture, k), quarter_turned(picture, k % 4))
                self.assertTrue(is_picture(quarter_turned(picture, k)))
            self.assertEqual(quarter_turned(quarter_turned(picture, 1), 3), picture)

    def test_posed(self):
        self.assertEqual(mirrored(((1, 2), (3, 0))), ((-3, 0), (-1, 2)))
        for picture in some_pictures(2, 10):
            for t in range(8):
                first = mirrored(picture) if t >= 4 else picture
                self.assertEqual(posed(picture, t), quarter_turned(first, t % 4))

    def test_at_home(self):
        self.assertEqual(at_home(()), ())
        self.assertEqual(at_home(((-3, FAR), (5, 0))), ((0, FAR), (8, 0)))
        for picture in some_pictures(3, 10)[1:]:
            self.assertEqual(box_of(at_home(picture))[:2], (0, 0))

    def test_poses(self):
        self.assertEqual(poses(()), ((),))
        self.assertEqual(least_pose(()), ())
        self.assertEqual([len(poses(picture)) for picture in (((7, 7),), ((0, 0), (1, 0)), HOOK)], [1, 2, 4])
        self.assertEqual(len(poses(((0, 0), (0, 1), (0, 2), (1, 0)))), 8)
        for picture in some_pictures(4, 12):
            told = poses(picture)
            self.assertEqual(told, tuple(sorted({at_home(posed(picture, t)) for t in range(8)})))
            self.assertEqual(least_pose(picture), min(told))

    def test_shift_between(self):
        self.assertEqual(shift_between((), ()), (0, 0))
        self.assertIsNone(shift_between((), HOOK))
        self.assertIsNone(shift_between(HOOK, ()))
        self.assertIsNone(shift_between(HOOK, HOOK[:2]))
        self.assertIsNone(shift_between(HOOK, ((0, 0), (0, 1), (1, 1))))
        self.assertEqual(shift_between(HOOK, shifted(HOOK, -FAR, 6)), (-FAR, 6))

    def test_pose_between(self):
        self.assertEqual(pose_between((), ()), (0, 0, 0))
        self.assertIsNone(pose_between((), HOOK))
        pictures = some_pictures(5, 12) + [HOOK]
        for one in pictures:
            for other in [shifted(posed(one, t), 3, -8) for t in range(8)] + pictures:
                found = [(t, *shift_between(posed(one, t), other)) for t in range(8)
                         if shift_between(posed(one, t), other) is not None]
                self.assertEqual(pose_between(one, other), min(found) if found else None)
                self.assertEqual(least_pose(one) == least_pose(other), bool(found))


class Blown(unittest.TestCase):
    def test_blown(self):
        self.assertEqual(blown((), 5), ())
        self.assertEqual(blown(((-1, 0),), 2), ((-2, 0), (-2, 1), (-1, 0), (-1, 1)))
        self.assertEqual(len(blown(((0, 0), (1, 1), (2, 2), (3, 3), (4, 4)), 20)), 2000)

    def test_unblown(self):
        self.assertEqual(unblown((), 3), ())
        for picture in some_pictures(6, 12):
            for k in (1, 2, 3, 5):
                self.assertEqual(unblown(blown(picture, k), k), picture)
        self.assertIsNone(unblown(drawn("##", "#."), 2))
        self.assertIsNone(unblown(shifted(blown(HOOK, 2), 1, 0), 2))
        self.assertIsNone(unblown(unlike_cells(blown(HOOK, 2), ((0, 1), (9, 9))), 2))

    def test_great_pictures(self):
        wide = picture_of([(x * 999983 % FAR, -x * 7919 % FAR) for x in range(400)])
        self.assertEqual(shift_between(wide, shifted(wide, -FAR, FAR)), (-FAR, FAR))
        self.assertEqual(pose_between(wide, posed(wide, 6)), (6, 0, 0))
        self.assertIsNone(unblown(wide, 20))


if __name__ == "__main__":
    unittest.main()
