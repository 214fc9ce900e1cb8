"""boneways/changes.py: points 11.1, 11.2 and 11.6, and of 11.7 what rows of changes keep."""

import random
import unittest

from boneways.changes import (
    behind_row, changes_bound, contrary, least_changes, near_pictures, pictures_of, shrink_by, shrink_row, shrunk,
    two_led)
from boneways.pictures import flipped, picture_of, shifted, united, unlike_cells
from boneways.pieces import euler, holes, pieces
from boneways.simple import all_changes, changed, is_addable, is_simple, judge_changes, simple_cells
from boneways.tree import form_of
from tests.plain import drawn, pictures_within
from tests.test_pieces import CORNERS, RINGS, some_pictures

BAR = ((0, 0), (1, 0), (2, 0))
RING = ((0, 0), (0, 1), (0, 2), (1, 0), (1, 2), (2, 0), (2, 1), (2, 2))


def some_row(chance, picture, many):
    """A row of so many changes, any, that can be done to a picture."""
    row = []
    for _ in range(many):
        every = all_changes(picture)
        if every:
            row.append(chance.choice(every))
            picture = changed(picture, row[-1])
    return tuple(row)


def some_rows(seed):
    """Pairs of a picture and a row that can be done to it."""
    chance = random.Random(seed)
    pictures = some_pictures(seed, 8, 6) + [BAR, RING, RINGS, CORNERS, (), ((5, -5),), shifted(RINGS, -999, 10 ** 5)]
    return [(picture, some_row(chance, picture, many)) for picture in pictures for many in (0, 1, 2, 9, 40)]


class Rows(unittest.TestCase):
    def test_behind_and_on_the_way(self):
        for picture, row in some_rows(1):
            told = [picture]
            for cell, kind in row:
                told.append(tuple(sorted(set(told[-1]) | {cell} if kind else set(told[-1]) - {cell})))
            self.assertEqual(pictures_of(picture, row), tuple(told))
            self.assertEqual(behind_row(picture, row), told[-1])

    def test_contrary_leads_back(self):
        for picture, row in some_rows(2):
            self.assertIsNone(judge_changes(picture, row))
            behind, back = behind_row(picture, row), contrary(row)
            self.assertIsInstance(back, tuple)
            self.assertEqual(back, tuple((cell, 1 - kind) for cell, kind in reversed(row)))
            self.assertIsNone(judge_changes(behind, back))
            self.assertEqual(pictures_of(behind, back), pictures_of(picture, row)[::-1])
            self.assertEqual(contrary(back), row)

    def test_what_is_kept_on_the_way(self):
        for picture, row in some_rows(3):
            for each in pictures_of(picture, row):
                self.assertEqual((form_of(each), euler(each)), (form_of(picture), euler(picture)))
                self.assertEqual((len(pieces(each)), len(holes(each))), (len(pieces(picture)), len(holes(picture))))

    def test_edges(self):
        self.assertEqual((behind_row(RING, ()), pictures_of(RING, ()), contrary(())), (RING, (RING,), ()))
        self.assertEqual((behind_row((), ()), pictures_of((), ())), ((), ((),)))
        # One cell more than once, and back again.
        row = (((3, 0), 1), ((3, 0), 0), ((3, 0), 1))
        self.assertEqual(behind_row(BAR, row), BAR + ((3, 0),))
        self.assertEqual(pictures_of(BAR, row), (BAR, BAR + ((3, 0),), BAR, BAR + ((3, 0),)))
        self.assertEqual(contrary(row), (((3, 0), 0), ((3, 0), 1), ((3, 0), 0)))

    def test_two_led(self):
        chance = random.Random(4)
        for picture, row in some_rows(5):
            for k in (0, len(row) // 2, len(row)):
                other = row[:k] + some_row(chance, behind_row(picture, row[:k]), 6)
                told = two_led(row, other)
                alike = 0
                while row[:alike + 1] == other[:alike + 1] and alike < min(len(row), len(other)):
                    alike += 1
                self.assertEqual(told, contrary(row[alike:]) + other[alike:])
                self.assertIsNone(judge_changes(behind_row(picture, row), told))
                self.assertEqual(behind_row(behind_row(picture, row), told), behind_row(picture, other))

    def test_two_led_with_one_beginning_alike(self):
        one, other = (((0, 0), 0), ((3, 0), 1)), (((0, 0), 0), ((2, 1), 1))
        self.assertEqual(two_led(one, other), (((3, 0), 0), ((2, 1), 1)))
        self.assertEqual((two_led(one, one), two_led(one, one[:1]), two_led(one[:1], one)),
                         ((), (((3, 0), 0),), (((3, 0), 1),)))
        self.assertEqual((two_led((), ()), two_led((), one), two_led(one, ())), ((), one, contrary(one)))
        # The beginning alone is left out, not what is alike farther on.
        late = (((2, 1), 1), ((0, 0), 0))
        self.assertEqual(two_led(late, (((2, -1), 1), ((0, 0), 0))),
                         (((0, 0), 1), ((2, 1), 0), ((2, -1), 1), ((0, 0), 0)))


def plain_shrink(picture, order):
    """The cells struck, one by one, the first simple one of an order each time."""
    told = []
    while True:
        simple = [cell for cell in order if cell in picture and is_simple(picture, cell)]
        if not simple:
            return tuple((cell, 0) for cell in told)
        told.append(simple[0])
        picture = tuple(cell for cell in picture if cell != simple[0])


class Shrinking(unittest.TestCase):
    def test_shrink_row(self):
        for picture in pictures_within(3, 3) + some_pictures(6, 15, 6) + [RINGS, CORNERS]:
            row = shrink_row(picture)
            self.assertEqual(row, plain_shrink(picture, picture))
            self.assertIsNone(judge_changes(picture, row))
            left = shrunk(picture)
            self.assertEqual(left, behind_row(picture, row))
            self.assertEqual((simple_cells(left), form_of(left)), ((), form_of(picture)))
            if not holes(picture):
                self.assertEqual(len(left), len(pieces(picture)))
                self.assertTrue(all(len(piece) == 1 for piece in pieces(left)))

    def test_shrink_by(self):
        chance = random.Random(7)
        for picture in pictures_within(3, 3)[::5] + some_pictures(8, 20, 6):
            for many in (len(picture), len(picture) // 2, 0):
                around = [(x, y) for x in range(-2, 9) for y in range(-2, 9) if (x, y) not in picture]
                order = chance.sample(list(picture), many) + chance.sample(around, 5)
                chance.shuffle(order)
                row = shrink_by(picture, tuple(order))
                self.assertEqual(row, plain_shrink(picture, order))
                self.assertIsNone(judge_changes(picture, row))
                left = behind_row(picture, row)
                self.assertFalse(any(is_simple(left, cell) for cell in order))
                if many == len(picture) and not holes(picture):
                    self.assertEqual(len(left), len(pieces(picture)))

    def test_orders(self):
        # The first of all again each time: (1, 0) is not simple till (0, 0) is gone.
        self.assertEqual(shrink_by(BAR, ((1, 0), (0, 0))), (((0, 0), 0), ((1, 0), 0)))
        # White cells, cells far away and such as are not simple are passed over.
        self.assertEqual(shrink_by(BAR, ((1, 0),)), ())
        self.assertEqual(shrink_by(BAR, ((9, 9), (1, 1), (1, 0), (2, 0), (-4, 10 ** 6))), (((2, 0), 0), ((1, 0), 0)))
        self.assertEqual(shrink_by(((5, 5),), ((5, 5), (5, 6))), ())
        self.assertEqual((shrink_by(BAR, ()), shrink_by((), ((0, 0),)), shrink_by((), ())), ((), (), ()))

    def test_edges(self):
        self.assertEqual((shrink_row(()), shrunk(())), ((), ()))
        self.assertEqual((shrink_row(((7, 7),)), shrunk(((7, 7),))), ((), ((7, 7),)))
        # The least first: not all that are simple at once.
        self.assertEqual(shrink_row(((0, 0), (0, 1), (1, 0))), (((0, 0), 0), ((0, 1), 0)))
        # With holes the tree stays, and thin rings.
        self.assertEqual(len(shrunk(RING)), 4)
        self.assertEqual(len(pieces(shrunk(RINGS))), 3)
        self.assertEqual(shrunk(drawn("###", "###", "###")), ((2, 2),))


def room_of(picture):
    xs, ys = [x for x, _ in picture], [y for _, y in picture]
    return [(x, y) for x in range(min(xs) - 1, max(xs) + 2) for y in range(min(ys) - 1, max(ys) + 2)]


def plain_next(picture, room):
    """The pictures behind each change of a cell of a room."""
    return [flipped(picture, cell) for cell in room if is_simple(picture, cell) or is_addable(picture, cell)]


def plain_levels(picture, room, most):
    """For each number of changes to most the set of the pictures to which just so many lead."""
    levels = [{picture}]
    for _ in range(most):
        levels.append({each for one in levels[-1] for each in plain_next(one, room)})
    return levels


class Around(unittest.TestCase):
    def test_near_pictures(self):
        lots = pictures_within(2, 3)[1:] + [BAR, RING, ((3, 3), (4, 4), (6, 3)), ((-7, 5),), drawn("####", "####")]
        for picture in lots:
            levels = plain_levels(picture, room_of(picture), 2)
            for k in range(3):
                told = near_pictures(picture, k)
                self.assertEqual(told, tuple(sorted({each for level in levels[:k + 1] for each in level})))

    def test_three_changes(self):
        for picture in (((0, 0),), BAR, ((0, 0), (1, 1)), ((0, 0), (3, 3))):
            levels = plain_levels(picture, room_of(picture), 3)
            self.assertEqual(near_pictures(picture, 3), tuple(sorted({each for level in levels for each in level})))

    def test_edges(self):
        for k in range(4):
            self.assertEqual(near_pictures((), k), ((),))
        self.assertEqual(near_pictures(BAR, 0), (BAR,))
        # The box stays that of the picture itself: one cell is led no farther than one step.
        self.assertEqual(len(near_pictures(((0, 0),), 1)), 9)
        for picture in near_pictures(((0, 0),), 3):
            self.assertTrue(all(abs(x) <= 1 and abs(y) <= 1 for x, y in picture))
        self.assertIn(((1, 1),), near_pictures(((0, 0),), 2))
        self.assertNotIn(((2, 0),), near_pictures(((0, 0),), 3))

    def test_least_changes(self):
        chance = random.Random(9)
        pictures = [picture for picture in pictures_within(3, 2) if len(pieces(picture)) == 1]
        for _ in range(60):
            one, other = chance.choice(pictures), shifted(chance.choice(pictures), chance.randrange(-1, 2), 0)
            levels = plain_levels(one, room_of(united(one, other)), 3)
            found = [many for many in range(4) if other in levels[many]]
            for k in range(4):
                told = least_changes(one, other, k)
                self.assertEqual(told, found[0] if found and found[0] <= k else None)
                if told is not None:
                    self.assertTrue(told >= changes_bound(one, other) and (told - changes_bound(one, other)) % 2 == 0)
            self.assertEqual(least_changes(one, other, 4), least_changes(other, one, 4))

    def test_more_changes_than_unlike_cells(self):
        # A bar of three cells without its middle one: two pieces, where there is no way at all.
        self.assertIsNone(least_changes(BAR, ((0, 0), (2, 0)), 4))
        # The middle one can be struck only when a way about it is there.
        arch = ((0, 0), (0, 1), (1, 0), (2, 0), (2, 1))
        round_about = ((0, 0), (0, 1), (1, 1), (2, 0), (2, 1))
        self.assertEqual(changes_bound(arch, round_about), 2)
        self.assertEqual(least_changes(arch, round_about, 4), 2)
        one, other = ((0, 0), (2, 0)), ((0, 0), (1, 2))
        self.assertEqual((changes_bound(one, other), least_changes(one, other, 3), least_changes(one, other, 4)),
                         (2, None, 4))

    def test_least_changes_edges(self):
        self.assertEqual([least_changes(one, one, k) for one in ((), BAR, RING) for k in (0, 4)], [0] * 6)
        self.assertEqual([least_changes((), BAR, 4), least_changes(BAR, (), 4), least_changes((), ((0, 0),), 4)],
                         [None] * 3)
        self.assertEqual([least_changes(BAR, BAR[:2], k) for k in range(3)], [None, 1, 1])
        # Within six by six, and pieces that cannot get out of one another's way.
        corners = ((0, 0), (0, 5), (5, 0), (5, 5))
        self.assertEqual(least_changes(corners, ((0, 1),) + corners[1:], 4), 2)
        self.assertIsNone(least_changes(corners, ((0, 2),) + corners[1:], 3))
        self.assertEqual(least_changes(corners, ((0, 2),) + corners[1:], 4), 4)
        # The box is that around both together.
        self.assertEqual(least_changes(((0, 0),), ((2, 0),), 4), 4)

    def test_changes_bound(self):
        for one in pictures_within(2, 2):
            for other in pictures_within(2, 2):
                self.assertEqual(changes_bound(one, other), len(set(one) ^ set(other)))
                self.assertEqual(changes_bound(one, other), len(unlike_cells(one, other)))
        self.assertEqual(changes_bound(picture_of(BAR), shifted(BAR, 10 ** 5, 0)), 6)


if __name__ == "__main__":
    unittest.main()
