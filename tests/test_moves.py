"""boneways/moves.py: points 11.3, 11.4 and 11.5, and of 11.7 what is led nowhere."""

import random
import unittest
from itertools import product

from boneways.changes import behind_row, contrary, pictures_of, shrunk
from boneways.moves import free_way, judge_led, led, line_up, step_row, way_row
from boneways.pictures import near_cells, picture_of, shifted
from boneways.pieces import holes, pieces
from boneways.simple import judge_changes
from tests.plain import ODD_VALUES, is_near, nested, pictures_within
from tests.test_changes import BAR, RING, some_row
from tests.test_pieces import some_pictures


def singles(picture):
    """Whether all pieces are single cells."""
    return all(len(piece) == 1 for piece in pieces(picture))


class Steps(unittest.TestCase):
    def test_step_row(self):
        self.assertEqual(step_row((4, -2), (3, -1)), (((3, -1), 1), ((4, -2), 0)))
        for picture in pictures_within(3, 4)[::7] + [((0, 0),), ((0, 0), (2, 2), (0, 3))]:
            for piece in pieces(picture):
                if len(piece) > 1:
                    continue
                cell = piece[0]
                for other in near_cells(cell):
                    row = step_row(cell, other)
                    can = other not in picture and not any(is_near(other, each) for each in picture if each != cell)
                    self.assertEqual(judge_changes(picture, row) is None, can)
                    if can:
                        self.assertEqual(set(behind_row(picture, row)), set(picture) - {cell} | {other})


def plain_way(picture, cell, to, room):
    """The least of all shortest ways, found by going all ways at once, each told whole."""
    x0, y0, x1, y1 = room
    free = [each for each in product(range(x0, x1 + 1), range(y0, y1 + 1))
            if not any(each == black or is_near(each, black) for black in picture if black != cell)]
    if cell not in free or to not in free:
        return None
    ways, seen = [(cell,)], {cell}
    while ways:
        there = [way for way in ways if way[-1] == to]
        if there:
            return min(there)
        ways = [way + (each,) for way in ways for each in free if is_near(way[-1], each) and each not in seen]
        seen |= {way[-1] for way in ways}
        # Of ways to one cell the least is enough.
        ways = [min(way for way in ways if way[-1] == last) for last in sorted({way[-1] for way in ways})]
    return None


class Ways(unittest.TestCase):
    def test_free_way(self):
        chance = random.Random(1)
        count = 0
        while count < 250:
            cells = picture_of([(chance.randrange(9), chance.randrange(9)) for _ in range(chance.randrange(1, 9))])
            alone = [piece[0] for piece in pieces(cells) if len(piece) == 1]
            if not alone:
                continue
            count += 1
            cell, to = chance.choice(alone), (chance.randrange(-1, 10), chance.randrange(-1, 10))
            room = (chance.randrange(-1, 2), chance.randrange(-1, 2), chance.randrange(6, 10), chance.randrange(6, 10))
            told = free_way(cells, cell, to, room)
            self.assertEqual(told, plain_way(cells, cell, to, room))
            if told is not None:
                row = way_row(told)
                self.assertIsNone(judge_changes(cells, row))
                self.assertEqual(set(behind_row(cells, row)), set(cells) - {cell} | {to})

    def test_to_itself_and_out_of_the_room(self):
        room = (0, 0, 3, 3)
        self.assertEqual(free_way(((1, 1),), (1, 1), (1, 1), room), ((1, 1),))
        self.assertEqual(free_way(((1, 1),), (1, 1), (1, 1), (1, 1, 1, 1)), ((1, 1),))
        self.assertIsNone(free_way(((1, 1),), (1, 1), (1, 1), (2, 0, 3, 3)))
        self.assertIsNone(free_way(((1, 1),), (1, 1), (4, 1), room))
        self.assertIsNone(free_way(((-1, 1),), (-1, 1), (1, 1), room))
        self.assertEqual(free_way(((0, 0),), (0, 0), (3, 3), room), ((0, 0), (1, 1), (2, 2), (3, 3)))

    def test_the_least_of_several(self):
        room = (-5, -5, 9, 9)
        self.assertEqual(free_way(((0, 0),), (0, 0), (2, 0), room), ((0, 0), (1, -1), (2, 0)))
        self.assertEqual(free_way(((0, 0),), (0, 0), (-3, 1), room), ((0, 0), (-1, -1), (-2, 0), (-3, 1)))
        self.assertEqual(free_way(((0, 0),), (0, 0), (0, 3), room), ((0, 0), (-1, 1), (-1, 2), (0, 3)))
        self.assertEqual(free_way(((0, 0),), (0, 0), (2, 0), (0, 0, 2, 9)), ((0, 0), (1, 0), (2, 0)))

    def test_what_bars(self):
        # To a black cell, near to one, and through a wall with and without a gap.
        self.assertIsNone(free_way(((0, 0), (5, 5)), (0, 0), (5, 5), (0, 0, 9, 9)))
        self.assertIsNone(free_way(((0, 0), (5, 5)), (0, 0), (4, 6), (0, 0, 9, 9)))
        wall = tuple((4, y) for y in range(10))
        self.assertIsNone(free_way(((0, 0),) + wall, (0, 0), (8, 0), (0, 0, 9, 9)))
        way = free_way(((0, 0),) + wall, (0, 0), (8, 0), (0, 0, 9, 11))
        self.assertIn((4, 11), way)
        self.assertIsNone(free_way(((0, 0),) + wall[:4] + wall[5:], (0, 0), (8, 0), (0, 0, 9, 9)))
        self.assertIn((4, 5), free_way(((0, 0),) + wall[:4] + wall[7:], (0, 0), (8, 0), (0, 0, 9, 9)))

    def test_way_row(self):
        self.assertEqual(way_row(((3, 3),)), ())
        self.assertEqual(way_row(((0, 0), (1, 1), (1, 2))), (((1, 1), 1), ((0, 0), 0), ((1, 2), 1), ((1, 1), 0)))


def plain_line(picture, x):
    """The row of line_up, step by step."""
    row = []
    for number, (i, j) in sorted(enumerate(picture), reverse=True):
        while (i, j) != (x + 2 * number, 0):
            step = (i + 1, j) if i < x + 2 * number else (i, j + 1 if j < 0 else j - 1)
            row += [(step, 1), ((i, j), 0)]
            i, j = step
    return tuple(row)


class LinedUp(unittest.TestCase):
    def test_line_up(self):
        lots = [shrunk(picture) for picture in some_pictures(2, 30, 7) if not holes(picture)]
        lots += [picture for picture in pictures_within(3, 3) if singles(picture)]
        lots += [tuple(product(range(0, 9, 2), range(-6, 3, 2))), ((-9, 30),)]
        for picture in lots:
            for far in (2, 3, 7):
                x = max([cell[0] for cell in picture], default=0) + far
                row = line_up(picture, x)
                self.assertEqual(row, plain_line(picture, x))
                self.assertIsNone(judge_changes(picture, row))
                self.assertEqual(behind_row(picture, row), tuple((x + 2 * k, 0) for k in range(len(picture))))

    def test_edges(self):
        self.assertEqual(line_up((), 5), ())
        self.assertEqual(line_up(((0, 0),), 2), way_row(((0, 0), (1, 0), (2, 0))))
        self.assertEqual(line_up(((0, 1),), 2), way_row(((0, 1), (1, 1), (2, 1), (2, 0))))
        self.assertEqual(line_up(((0, -1),), 2), way_row(((0, -1), (1, -1), (2, -1), (2, 0))))
        row = line_up(((0, 0), (0, 2)), 2)
        self.assertEqual(row[:2], (((1, 2), 1), ((0, 2), 0)))
        self.assertEqual(row[-2:], (((2, 0), 1), ((1, 0), 0)))


class Led(unittest.TestCase):
    def test_small_pictures(self):
        flat = [picture for picture in pictures_within(3, 3) if not holes(picture)]
        for one in flat[::4]:
            for other in flat[::29] + [()]:
                row = led(one, other)
                if len(pieces(one)) != len(pieces(other)):
                    self.assertIsNone(row)
                    continue
                self.assertIsInstance(row, tuple)
                self.assertIsNone(judge_changes(one, row))
                self.assertEqual(behind_row(one, row), other)
                self.assertIsNone(judge_led(one, other, row))

    def test_greater_pictures(self):
        flat = [picture for picture in some_pictures(3, 60, 6) if not holes(picture)]
        flat += [shifted(picture, 2, -9) for picture in flat]
        count = 0
        for one in flat:
            for other in flat:
                if len(pieces(one)) == len(pieces(other)):
                    self.assertIsNone(judge_led(one, other, led(one, other)))
                    count += 1
                else:
                    self.assertIsNone(led(one, other))
        self.assertGreater(count, 100)

    def test_edges(self):
        self.assertEqual(led((), ()), ())
        self.assertIsNone(led((), BAR))
        self.assertIsNone(led(BAR, ()))
        self.assertIsNone(led(BAR, ((0, 0), (2, 0))))
        self.assertEqual(behind_row(BAR, led(BAR, BAR)), BAR)
        # Far from 0, 0, where no way leads there and back.
        far = shifted(BAR, -999999, 999999)
        row = led(far, shifted(far, 5, 5))
        self.assertIsNone(judge_led(far, shifted(far, 5, 5), row))
        self.assertLess(len(row), 500)

    def test_pieces_stay_on_the_way(self):
        one, other = ((0, 0), (0, 1), (3, 3)), ((0, 2), (5, 0), (5, 1), (6, 0))
        for picture in pictures_of(one, led(one, other)):
            self.assertEqual((len(pieces(picture)), holes(picture)), (2, ()))


class LedJudged(unittest.TestCase):
    def test_right_rows(self):
        chance = random.Random(4)
        for picture in some_pictures(5, 10, 5) + [RING, (), BAR]:
            row = some_row(chance, picture, 12)
            other = behind_row(picture, row)
            self.assertIsNone(judge_led(picture, other, row))
            self.assertIsNone(judge_led(other, picture, contrary(row)))
            self.assertIsNone(judge_led(picture, picture, row + contrary(row)))

    def test_each_fault_in_sequence(self):
        row = (((0, 0), 0), ((2, 1), 1))
        other = behind_row(BAR, row)
        self.assertIsNone(judge_led(BAR, other, row))
        # What judge_changes tells goes ahead: what is neither, and the first that is no change there.
        for wrong in (None, {}, "row", 7, {((0, 0), 0): 1}):
            self.assertEqual(judge_led(BAR, other, wrong), ("form",))
        self.assertEqual(judge_led(BAR, other, row + (((1, 1), 0),)), ("change", 2))
        self.assertEqual(judge_led(BAR, other, [((1, 0), 0)]), ("change", 0))
        self.assertEqual(judge_led(BAR, other, list(row) + [None]), ("change", 2))
        # A list is no row, whether or not it leads there.
        self.assertEqual(judge_led(BAR, other, list(row)), ("form",))
        self.assertEqual(judge_led(BAR, other, []), ("form",))
        self.assertEqual(judge_led(BAR, BAR, []), ("form",))
        # Elsewhere at last.
        self.assertEqual(judge_led(BAR, other, row[:1]), ("ends",))
        self.assertEqual(judge_led(BAR, other, ()), ("ends",))
        self.assertIsNone(judge_led(BAR, BAR, ()))

    def test_wrong_changes(self):
        for wrong in (((0, 0), True), ((0, 0), False), ((False, 0), 0), [(0, 0), 0], ([0, 0], 0), ((0, 0),), ((0, 0), 1),
                      ((1, 0), 0), ((9, 9), 1), ((0, 0), 0, 0), ((0, 0), 2), ((0, 0), -1), None, "x", ((0, 0), None)):
            self.assertEqual(judge_led(BAR, BAR[1:], (wrong,)), ("change", 0))
            self.assertEqual(judge_led(BAR, BAR[1:], (((3, 0), 1), wrong)), ("change", 1))
        self.assertEqual(judge_led(BAR, BAR[1:], (((0, 0), False),)), ("change", 0))
        self.assertIsNone(judge_led(BAR, BAR[1:], (((0, 0), 0),)))

    def test_any_value(self):
        for value in ODD_VALUES + (nested(40), [nested(39)]):
            told = judge_led(BAR, RING, value)
            if isinstance(value, (list, tuple)) and len(value) > 0:
                self.assertEqual(told[0], "change")
            else:
                self.assertEqual(told, ("ends",) if value == () else ("form",))

    def test_what_is_led_nowhere(self):
        # One with holes to none without, whatever is added or struck.
        chance = random.Random(6)
        for picture in (RING, BAR, ((0, 0), (2, 0))):
            for _ in range(20):
                behind = behind_row(picture, some_row(chance, picture, 15))
                self.assertEqual((len(pieces(behind)), len(holes(behind))), (len(pieces(picture)), len(holes(picture))))


if __name__ == "__main__":
    unittest.main()
