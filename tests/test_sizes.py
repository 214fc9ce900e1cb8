"""boneways/sizes.py: point 9.5, and within_reach of 9.6."""

import unittest

from boneways.boxes import box_cells, box_depths
from boneways.pictures import lies_in, picture_of, shifted
from boneways.sizes import closed_by, greatest_size, grown_by, opened_by, shrunk_by, sizes_told, within_reach
from tests.test_boxes import BLOT, FLAG, across, all_pictures, plain_cells
from tests.test_pieces import RINGS


def plain_grown(picture, r):
    return picture_of([each for cell in picture for each in plain_cells(cell, r + 1, across)])


def plain_shrunk(picture, r):
    black = set(picture)
    return tuple(cell for cell in picture if set(plain_cells(cell, r + 1, across)) <= black)


class Sizes(unittest.TestCase):
    def test_shrunk_and_grown(self):
        for picture in all_pictures()[::5] + [(), BLOT, FLAG, shifted(BLOT, -50, 9)]:
            for r in range(5):
                self.assertEqual(shrunk_by(picture, r), plain_shrunk(picture, r))
                self.assertEqual(grown_by(picture, r), plain_grown(picture, r))
                self.assertEqual(opened_by(picture, r), plain_grown(plain_shrunk(picture, r), r))
                self.assertEqual(closed_by(picture, r), plain_shrunk(plain_grown(picture, r), r))

    def test_edges(self):
        for told in (shrunk_by, grown_by, opened_by, closed_by):
            self.assertEqual(told(FLAG, 0), FLAG)
            self.assertEqual((told((), 0), told((), 3)), ((), ()))
        self.assertEqual(shrunk_by(FLAG, 1), ((1, 1),))
        self.assertEqual(shrunk_by(FLAG, 2), ())
        self.assertEqual(opened_by(FLAG, 1), FLAG[:-1])
        self.assertEqual(grown_by(((5, 5),), 40), box_cells(((5, 5), 41)))
        self.assertEqual(closed_by(((0, 0), (0, 2)), 1), ((0, 0), (0, 1), (0, 2)))
        self.assertEqual(closed_by(((0, 0), (2, 0)), 1), ((0, 0), (1, 0), (2, 0)))
        self.assertEqual(closed_by(((0, 0), (3, 0)), 1), ((0, 0), (1, 0), (2, 0), (3, 0)))
        self.assertEqual(closed_by(((0, 0), (4, 0)), 1), ((0, 0), (4, 0)))

    def test_for_all_pictures(self):
        for picture in all_pictures()[::3] + [BLOT, RINGS]:
            for r in range(4):
                opened, closed = opened_by(picture, r), closed_by(picture, r)
                boxes = [(cell, r + 1) for cell, depth in box_depths(picture) if r + 1 <= depth]
                self.assertEqual(opened, picture_of([each for box in boxes for each in box_cells(box)]))
                self.assertTrue(lies_in(opened, picture) and lies_in(picture, closed))
                self.assertEqual((opened_by(opened, r), closed_by(closed, r)), (opened, closed))
                for s in range(3):
                    self.assertEqual(shrunk_by(shrunk_by(picture, r), s), shrunk_by(picture, r + s))
                    self.assertEqual(grown_by(grown_by(picture, r), s), grown_by(picture, r + s))

    def test_sizes_told(self):
        for picture in all_pictures():
            told = []
            while opened_by(picture, len(told)):
                told.append(len(opened_by(picture, len(told))))
            self.assertEqual(sizes_told(picture), tuple(told))
            self.assertEqual(greatest_size(picture), len(told))
        self.assertEqual((sizes_told(()), greatest_size(())), ((), 0))
        self.assertEqual((sizes_told(((9, 9),)), greatest_size(((9, 9),))), ((1,), 1))
        self.assertEqual(sizes_told(RINGS), (len(RINGS),))

    def test_within_reach(self):
        for picture in (FLAG, BLOT, RINGS, ()):
            for cell in ((0, 0), (4, 1), (2, 3), (-7, 5), (10 ** 9, 0)):
                for r in (0, 1, 2, 5, 40):
                    told = tuple(each for each in picture if across(each, cell) <= r)
                    self.assertEqual(within_reach(picture, cell, r), told)
        # Over cells of any colour, as far as the steps go.
        self.assertEqual(within_reach(((0, 0), (9, 0)), (4, 0), 4), ((0, 0),))
        self.assertEqual(within_reach(((0, 0), (9, 0)), (0, 0), 0), ((0, 0),))
        self.assertEqual(within_reach(((0, 0), (9, 0)), (1, 0), 0), ())


if __name__ == "__main__":
    unittest.main()
