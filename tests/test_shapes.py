"""boneways/shapes.py: point 8.5."""

import random
import unittest
from itertools import permutations

from boneways.pictures import posed, shifted
from boneways.shapes import judge_renaming, least_shape, renaming, shape
from boneways.webs import web_of
from tests.plain import ODD_VALUES, is_beside, nested
from tests.test_webs import EIGHT, LOLLY, MAZE, RING, THIN, T

ONE, OTHER = (2, ((0, 1, 1, 0), (0, 1, 2, 0))), (2, ((0, 1, 1, 0), (1, 1, 2, 0)))


def some_shape(chance, knots, ways, most=2):
    told = [(*sorted((chance.randrange(knots), chance.randrange(knots))), chance.randrange(most), chance.randrange(most))
            for _ in range(ways)]
    return (knots, tuple(sorted(told)))


def led_by(one, numbers, measured):
    """The shape that one becomes if each number i becomes numbers[i]."""
    told = []
    for i, j, straight, across in one[1]:
        ends = sorted((numbers[i], numbers[j]))
        told.append((*ends, straight, across) if measured else (*ends, 0, 0))
    return (one[0], tuple(sorted(told)))


def small_shapes():
    """The shapes of thin pictures that have at most five knots, and some others."""
    chance = random.Random(1)
    told = {shape(web_of(picture)) for picture in THIN}
    few = sorted(each for each in told if each[0] <= 5)
    return few[::4] + [some_shape(chance, knots, ways) for knots in (1, 2, 3, 4, 5) for ways in (0, 1, 3, 6)]


class Shapes(unittest.TestCase):
    def test_of_webs(self):
        for picture in THIN:
            knots, ways = web_of(picture)
            told = []
            for way in ways:
                straight = sum(is_beside(one, other) for one, other in zip(way, way[1:]))
                numbers = sorted((knots.index(way[0]), knots.index(way[-1])))
                told.append((*numbers, straight, len(way) - 1 - straight))
            self.assertEqual(shape((knots, ways)), (len(knots), tuple(sorted(told))))

    def test_edges(self):
        self.assertEqual(shape(web_of(())), (0, ()))
        self.assertEqual(shape(web_of(((4, 4),))), (1, ()))
        self.assertEqual(shape(web_of(((4, 4), (9, 9)))), (2, ()))
        self.assertEqual(shape(web_of(((0, 0), (1, 1), (2, 1)))), (2, ((0, 1, 1, 1),)))
        # A way from a knot to itself; equal ways as often as they come.
        self.assertEqual(shape(web_of(LOLLY)), (2, ((0, 0, 0, 4), (0, 1, 1, 0))))
        self.assertEqual(shape(web_of(((-2, 0), (-1, 0), (0, -1), (0, 1), (1, 0), (2, 0))))[1].count((1, 2, 0, 2)), 2)


class Renamings(unittest.TestCase):
    def test_among_all_numbers(self):
        shapes = small_shapes()
        chance = random.Random(2)
        for _ in range(150):
            one = chance.choice(shapes)
            other = chance.choice([each for each in shapes if each[0] == one[0]])
            if chance.randrange(2):
                other = led_by(other, chance.sample(range(one[0]), one[0]), 1)
            for measured in (0, 1):
                right = [numbers for numbers in permutations(range(one[0]))
                         if led_by(one, numbers, measured) == led_by(other, range(one[0]), measured)]
                told = renaming(one, other, measured)
                self.assertEqual(told in right, bool(right))
                self.assertEqual(told is None, not right)
                alike = least_shape(one, measured) == least_shape(other, measured)
                self.assertEqual(alike, bool(right))
                for numbers in list(permutations(range(one[0])))[:24]:
                    fault = None if numbers in right else ("ways",)
                    self.assertEqual(judge_renaming(one, other, measured, numbers), fault)

    def test_least_shape(self):
        for each in small_shapes():
            for measured in (0, 1):
                told = min(led_by(each, numbers, measured) for numbers in permutations(range(each[0])))
                self.assertEqual(least_shape(each, measured), told)
                self.assertEqual(least_shape(told, measured), told)

    def test_edges(self):
        for measured in (0, 1):
            self.assertEqual(renaming((0, ()), (0, ()), measured), ())
            self.assertIsNone(judge_renaming((0, ()), (0, ()), measured, ()))
            self.assertEqual(least_shape((0, ()), measured), (0, ()))
            self.assertIsNone(renaming((1, ()), (2, ()), measured))
            self.assertIsNone(renaming((2, ()), (2, ((0, 1, 1, 1),)), measured))
            self.assertIsNone(renaming((2, ((0, 1, 1, 1),)), (2, ((0, 1, 1, 1),) * 2), measured))
            self.assertIsNone(renaming(ONE, OTHER, measured))
        # The measure alone is unlike.
        self.assertIsNone(renaming((1, ((0, 0, 0, 4),)), (1, ((0, 0, 4, 0),)), 1))
        self.assertEqual(renaming((1, ((0, 0, 0, 4),)), (1, ((0, 0, 4, 0),)), 0), (0,))
        self.assertEqual(renaming((2, ((0, 0, 3, 3), (0, 1, 1, 0))), (2, ((0, 1, 1, 0), (1, 1, 3, 3))), 1), (1, 0))
        self.assertEqual(least_shape((2, ((0, 1, 1, 0), (1, 1, 3, 3))), 0), (2, ((0, 0, 0, 0), (0, 1, 0, 0))))
        self.assertEqual(least_shape((3, ((0, 1, 5, 5), (1, 2, 10 ** 6, 0))), 1), (3, ((0, 1, 5, 5), (0, 2, 10 ** 6, 0))))

    def test_turned_and_moved_pictures(self):
        for picture in (T, RING, LOLLY, EIGHT, shifted(T, 9, 9)) + tuple(THIN[-70:-60]):
            one = shape(web_of(picture))
            for t in range(8):
                other = shape(web_of(shifted(posed(picture, t), 3, -5)))
                if one[0] <= 7:
                    told = renaming(one, other, 1)
                    self.assertIsNone(judge_renaming(one, other, 1, told))
                    self.assertEqual(least_shape(one, 1), least_shape(other, 1))
                self.assertEqual(sorted(way[2:] for way in one[1]), sorted(way[2:] for way in other[1]))
        self.assertEqual(shape(web_of(MAZE)), shape(web_of(shifted(MAZE, 10 ** 6, 7))))

    def test_form(self):
        for value in ([0, 1], (0,), (0, 1, 2), (0, 0), (1, 2), (0, -1), (False, 1), (0, True), (0, None), ("0", "1"),
                      ((0,), (1,)), None, "01", {0: 1}, (0, [1])) + ODD_VALUES + (nested(40), (nested(39), 0)):
            if value != (0, 1) and value != (1, 0):
                self.assertEqual(judge_renaming(ONE, ONE, 1, value), ("form",))
                self.assertEqual(judge_renaming(ONE, OTHER, 0, value), ("form",))
        self.assertEqual(judge_renaming((1, ()), (2, ()), 1, (0,)), ("form",))
        self.assertEqual(judge_renaming((1, ()), (2, ()), 1, (0, 1)), ("form",))
        self.assertEqual(judge_renaming((2, ()), (1, ()), 0, (0, 1)), ("form",))

    def test_ways(self):
        self.assertEqual(judge_renaming(ONE, OTHER, 1, (1, 0)), ("ways",))
        self.assertEqual(judge_renaming((2, ()), ONE, 1, (1, 0)), ("ways",))
        loop = (2, ((0, 0, 1, 1),))
        self.assertEqual(judge_renaming(loop, loop, 0, (1, 0)), ("ways",))
        self.assertIsNone(judge_renaming(loop, (2, ((1, 1, 2, 2),)), 0, (1, 0)))
        self.assertEqual(judge_renaming(loop, (2, ((1, 1, 2, 2),)), 1, (1, 0)), ("ways",))
        # Number i of one becomes its member number i.
        chain, led = (3, ((0, 1, 1, 0), (1, 2, 5, 5))), (3, ((0, 1, 5, 5), (1, 2, 1, 0)))
        self.assertIsNone(judge_renaming(chain, led, 1, (2, 1, 0)))
        turned = (3, ((0, 2, 5, 5), (1, 2, 1, 0)))
        self.assertIsNone(judge_renaming(chain, turned, 1, (1, 2, 0)))
        self.assertEqual(judge_renaming(chain, turned, 1, (2, 0, 1)), ("ways",))
        self.assertEqual(renaming(chain, turned, 1), (1, 2, 0))


if __name__ == "__main__":
    unittest.main()
