"""boneways/turning.py: point 10.6, together with the rims of boneways/rims.py."""

import unittest
from itertools import product

from boneways.pictures import mirrored, posed, quarter_turned, shifted
from boneways.rims import is_outer, rim_length, rim_sides, rims
from boneways.turning import least_turns, mirrored_rim, rim_from, shifted_rim, turn_word, turned_rim
from tests.plain import drawn, pictures_within
from tests.test_pieces import RINGS
from tests.test_rims import HOOK, ONE, RING, TWO_HOLES, all_pictures

STEPS = ((1, 0), (0, 1), (-1, 0), (0, -1))
HOLE = rims(RING)[1]
# Black cells that touch at a corner alone, and a hole whose rim goes into itself at one.
LEAN = ((0, 0), (1, 1))
PINCHED = drawn(
    "#####",
    "#.#.#",
    "##.##",
    "#####")


def all_rims():
    return sorted({rim for picture in all_pictures() + [PINCHED] for rim in rims(picture)})


def begun(word, k):
    return word[k:] + word[:k]


def plain_rim(sides):
    """The rim of a set of sides in their order, begun at the least one."""
    k = sides.index(min(sides))
    row = sides[k:] + sides[:k]
    return (row[0][0], tuple(d for _, d in row))


def corner_led(sides, lead):
    """The sides between the corners to which those of sides are led, in their order."""
    told = []
    for (x, y), d in sides:
        start, end = lead((x, y)), lead((x + STEPS[d][0], y + STEPS[d][1]))
        told.append((start, STEPS.index((end[0] - start[0], end[1] - start[1]))))
    return told


def other_way(sides):
    """The sides gone round the other way."""
    return [((x + STEPS[d][0], y + STEPS[d][1]), (d + 2) % 4) for (x, y), d in sides[::-1]]


class Turns(unittest.TestCase):
    def test_turn_word(self):
        for rim in all_rims():
            told = turn_word(rim)
            self.assertIsInstance(told, tuple)
            self.assertEqual((len(told), sum(told)), (rim_length(rim), 4 if is_outer(rim) else -4))
            for turn, before, after in zip(told, rim[1], begun(rim[1], 1)):
                # The part of the step behind that goes to the left of the step ahead.
                left = STEPS[(before + 1) % 4]
                self.assertEqual(turn, STEPS[after][0] * left[0] + STEPS[after][1] * left[1])
        self.assertEqual(turn_word(ONE), (1, 1, 1, 1))
        self.assertEqual(turn_word(HOLE), (-1, -1, -1, -1))
        self.assertEqual(turn_word(rims(LEAN)[0]), (1, -1, 1, 1, 1, -1, 1, 1))

    def test_least_turns(self):
        for rim in all_rims():
            told = turn_word(rim)
            self.assertEqual(least_turns(rim), min(begun(told, k) for k in range(len(told))))
        self.assertEqual(least_turns(ONE), (1, 1, 1, 1))
        self.assertEqual(least_turns(HOLE), (-1, -1, -1, -1))
        self.assertEqual(least_turns(rims(HOOK)[0]), (-1, 1, 1, 0, 1, 0, 1, 1))

    def test_equal_exactly_if_led_by_shifts_and_quarter_turns(self):
        found = sorted({rim for picture in pictures_within(3, 3) + [RINGS, TWO_HOLES, PINCHED]
                        for rim in rims(picture)})
        homes = {}
        for rim in found:
            led = [rim]
            for _ in range(3):
                led.append(turned_rim(led[-1]))
            # Shifted so that the corner of the least side is 0, 0.
            homes[rim] = {shifted_rim(each, -each[0][0], -each[0][1]) for each in led}
        for one in found[::3]:
            for other in found:
                self.assertEqual(least_turns(one) == least_turns(other), homes[one] == homes[other])
                self.assertEqual(least_turns(one) == least_turns(other), len(homes[one] & homes[other]) > 0)

    def test_least_turns_of_mirrored_ones(self):
        for rim in all_rims():
            behind = turn_word(rim)[::-1]
            self.assertEqual(least_turns(mirrored_rim(rim)), min(begun(behind, k) for k in range(len(behind))))


class FromTurns(unittest.TestCase):
    def test_begun_at_each_side(self):
        for rim in all_rims()[::2] + [HOLE, ONE, rims(LEAN)[0]] + list(rims(PINCHED)):
            told = turn_word(rim)
            for k, (corner, d) in enumerate(rim_sides(rim)):
                self.assertEqual(rim_from(corner, d, begun(told, k)), rim)

    def test_begun_elsewhere(self):
        for rim in (rims(HOOK)[0], HOLE, ONE, rims(RINGS)[1]):
            told = turn_word(rim)
            for d in range(4):
                for k in range(len(told)):
                    made = rim_from((7, -9), d, begun(told, k))
                    self.assertIn(((7, -9), d), rim_sides(made))
                    at = rim_sides(made).index(((7, -9), d))
                    self.assertEqual(begun(turn_word(made), at), begun(told, k))
                    self.assertEqual(rim_sides(made)[0], min(rim_sides(made)))
                    self.assertEqual(least_turns(made), least_turns(rim))


class Led(unittest.TestCase):
    def test_rims_of_led_pictures(self):
        for picture in all_pictures() + [PINCHED, ()]:
            told = rims(picture)
            for dx, dy in ((0, 0), (3, -5), (-10 ** 9, 1)):
                self.assertEqual(rims(shifted(picture, dx, dy)),
                                 tuple(sorted(shifted_rim(rim, dx, dy) for rim in told)))
            turned = [shifted_rim(turned_rim(rim), 1, 0) for rim in told]
            self.assertEqual(rims(quarter_turned(picture, 1)), tuple(sorted(turned)))
            other = [shifted_rim(mirrored_rim(rim), 1, 0) for rim in told]
            self.assertEqual(rims(mirrored(picture)), tuple(sorted(other)))

    def test_each_rim_word_for_word(self):
        for rim in all_rims():
            sides = list(rim_sides(rim))
            self.assertEqual(shifted_rim(rim, 4, -7), plain_rim(corner_led(sides, lambda at: (at[0] + 4, at[1] - 7))))
            self.assertEqual(turned_rim(rim), plain_rim(corner_led(sides, lambda at: (-at[1], at[0]))))
            self.assertEqual(mirrored_rim(rim), plain_rim(corner_led(other_way(sides), lambda at: (-at[0], at[1]))))
            self.assertEqual(mirrored_rim(mirrored_rim(rim)), rim)
            four = rim
            for _ in range(4):
                four = turned_rim(four)
            self.assertEqual(four, rim)

    def test_rims_that_are_not_outer(self):
        self.assertEqual(HOLE, ((1, 1), (1, 0, 3, 2)))
        self.assertEqual(shifted_rim(HOLE, 2, 3), ((3, 4), (1, 0, 3, 2)))
        self.assertEqual(turned_rim(HOLE), ((-2, 1), (1, 0, 3, 2)))
        self.assertEqual(mirrored_rim(HOLE), ((-2, 1), (1, 0, 3, 2)))
        for told in (turned_rim(HOLE), mirrored_rim(HOLE), shifted_rim(HOLE, 9, 9)):
            self.assertIs(is_outer(told), False)
        self.assertEqual(mirrored_rim(ONE), ((-1, 0), (0, 1, 2, 3)))

    def test_turns_of_pictures(self):
        # All eight turns of a glyph have but two least words: as it is, and mirrored.
        bent = drawn("##.", ".##", ".#.")
        words = [least_turns(rims(posed(bent, t))[0]) for t in range(8)]
        self.assertEqual([set(words[:4]), set(words[4:])], [{words[0]}, {words[4]}])
        self.assertNotEqual(words[0], words[4])

    def test_chains_of_corners(self):
        board = tuple(cell for cell in product(range(4), repeat=2) if sum(cell) % 2 == 0)
        self.assertEqual([turn_word(rim) for rim in rims(board)[1:]], [(-1,) * 4] * 2)
        self.assertEqual(rims(mirrored(board)), tuple(sorted(shifted_rim(mirrored_rim(rim), 1, 0)
                                                             for rim in rims(board))))


if __name__ == "__main__":
    unittest.main()
