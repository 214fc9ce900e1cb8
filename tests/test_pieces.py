"""boneways/pieces.py: points 2.1, 2.4 and 2.5."""

import random
import unittest

from boneways.pictures import picture_of, shifted
from boneways.pieces import euler, holes, judge_holes, judge_pieces, pieces, place_of, window_counts
from tests.plain import (
    ODD_VALUES, drawn, frame_of, is_beside, is_near, nested, parted, pictures_within, plain_holes, plain_pieces)

RINGS = drawn(
    "#########",
    "#.......#",
    "#.#####.#",
    "#.#...#.#",
    "#.#.#.#.#",
    "#.#...#.#",
    "#.#####.#",
    "#.......#",
    "#########")
CORNERS = drawn(
    ".#.#.",
    "#.#.#",
    ".#.#.")


def some_pictures(seed, many, side):
    chance = random.Random(seed)
    return [picture_of([(chance.randrange(side), chance.randrange(side)) for _ in range(side * side * 2 // 3)])
            for _ in range(many)]


class Pieces(unittest.TestCase):
    def test_all_small_pictures(self):
        for picture in pictures_within(3, 4):
            self.assertEqual(pieces(picture), plain_pieces(picture))
            self.assertEqual(holes(picture), plain_holes(picture))

    def test_greater_pictures(self):
        for picture in some_pictures(1, 15, 9) + [RINGS, CORNERS]:
            self.assertEqual(pieces(picture), plain_pieces(picture))
            self.assertEqual(holes(picture), plain_holes(picture))

    def test_edges(self):
        self.assertEqual((pieces(()), holes(())), ((), ()))
        self.assertEqual((pieces(((-5, 9),)), holes(((-5, 9),))), ((((-5, 9),),), ()))
        self.assertEqual(pieces(CORNERS), (CORNERS,))
        self.assertEqual(holes(CORNERS), (((1, 1),), ((3, 1),)))
        self.assertEqual([len(pieces(RINGS)), len(holes(RINGS))], [3, 2])
        far = shifted(RINGS, -999999, 999999 - 8)
        self.assertEqual(holes(far), tuple(shifted(hole, -999999, 999999 - 8) for hole in holes(RINGS)))

    def test_greatest_pictures(self):
        dots = tuple((x, y) for x in range(0, 60, 3) for y in range(0, 60, 3))
        self.assertEqual(len(pieces(dots)), 400)
        rim = tuple((x, y) for x in range(60) for y in range(60) if x in (0, 59) or y in (0, 59))
        self.assertEqual([len(hole) for hole in holes(rim)], [58 * 58])


class Places(unittest.TestCase):
    def test_place_of(self):
        for picture in some_pictures(2, 6, 6) + [RINGS, CORNERS, ((0, 0),)]:
            told = {cell: ("piece", lot[0]) for lot in plain_pieces(picture) for cell in lot}
            told.update({cell: ("hole", lot[0]) for lot in plain_holes(picture) for cell in lot})
            for cell in frame_of(picture) + [(10 ** 6 - 1, 0), (3, 1 - 10 ** 6)]:
                self.assertEqual(place_of(picture, cell), told.get(cell, ("outside",)))
        self.assertEqual(place_of((), (0, 0)), ("outside",))


class Euler(unittest.TestCase):
    def test_window_counts(self):
        self.assertEqual(window_counts(()), (0, 0, 0))
        self.assertEqual(window_counts(((0, 0),)), (4, 0, 0))
        self.assertEqual(window_counts(((0, 0), (1, 1))), (6, 0, 1))
        self.assertEqual(window_counts(((0, 1), (1, 0))), (6, 0, 1))
        self.assertEqual(window_counts(((0, 0), (0, 1))), (4, 0, 0))
        self.assertEqual(window_counts(((0, 0), (0, 1), (1, 0))), (5, 1, 0))

    def test_all_windows_one_by_one(self):
        for picture in pictures_within(3, 3)[1:]:
            counts = {"one": 0, "three": 0, "cross": 0}
            for x, y in frame_of(picture):
                black = [cell for cell in ((x, y), (x + 1, y), (x, y + 1), (x + 1, y + 1)) if cell in picture]
                counts["one"] += len(black) == 1
                counts["three"] += len(black) == 3
                counts["cross"] += len(black) == 2 and not is_beside(*black)
            self.assertEqual(window_counts(picture), tuple(counts.values()))

    def test_pieces_less_holes(self):
        for picture in pictures_within(3, 4) + some_pictures(3, 30, 12) + [RINGS, CORNERS]:
            self.assertEqual(euler(picture), len(pieces(picture)) - len(holes(picture)))
        self.assertEqual(euler(CORNERS), -1)


def plain_form(value):
    if not isinstance(value, tuple):
        return False
    for lot in value:
        if not isinstance(lot, tuple) or lot == ():
            return False
        for cell in lot:
            if not isinstance(cell, tuple) or len(cell) != 2 or any(type(number) is not int for number in cell):
                return False
        if list(lot) != sorted(set(lot)):
            return False
    return list(value) == sorted(set(value))


def plain_common(value, wrong, joins):
    if wrong:
        return ("cell", min(wrong))
    told = [cell for lot in value for cell in lot]
    twice = [cell for cell in told if told.count(cell) > 1]
    if twice:
        return ("twice", min(twice))
    for k, lot in enumerate(value):
        if len(parted(lot, joins)) > 1:
            return ("apart", k)
    return None


def plain_judge_pieces(picture, value):
    if not plain_form(value):
        return ("form",)
    fault = plain_common(value, set(picture) ^ {cell for lot in value for cell in lot}, is_near)
    if fault:
        return fault
    for j in range(len(value)):
        for k in range(j + 1, len(value)):
            if any(is_near(one, other) for one in value[j] for other in value[k]):
                return ("near", j, k)
    return None


def plain_judge_holes(picture, value):
    if not plain_form(value):
        return ("form",)
    told = {cell for lot in value for cell in lot}
    fault = plain_common(value, set(picture) & told, is_beside)
    if fault:
        return fault
    for k, lot in enumerate(value):
        for x, y in lot:
            if any(s not in picture and s not in lot for s in ((x + 1, y), (x - 1, y), (x, y + 1), (x, y - 1))):
                return ("open", k)
    lacking = [cell for hole in plain_holes(picture) for cell in hole if cell not in told]
    return ("lacks", min(lacking)) if lacking else None


def spoilt(chance, lots, cells):
    """Lots with one or two of their members, or of their members' cells, changed."""
    lots = [list(lot) for lot in lots]
    for _ in range(chance.randrange(3)):
        deed = chance.randrange(6)
        lot = chance.choice(lots) if lots else []
        if deed == 0 and lots:
            lots.remove(lot)
        elif deed == 1 and lot:
            lot.remove(chance.choice(lot))
        elif deed == 2:
            lot.append(chance.choice(cells))
        elif deed == 3:
            lots.append([chance.choice(cells)])
        elif deed == 4 and len(lots) > 1:
            lots.remove(lot)
            lots[0].extend(lot)
        elif deed == 5 and len(lot) > 1:
            lots.append(lot[len(lot) // 2:])
            del lot[len(lot) // 2:]
    return tuple(sorted({tuple(sorted(set(lot))) for lot in lots if lot}))


class Judges(unittest.TestCase):
    def test_what_is_right(self):
        for picture in some_pictures(4, 30, 8) + [(), RINGS, CORNERS]:
            self.assertIsNone(judge_pieces(picture, pieces(picture)))
            self.assertIsNone(judge_holes(picture, holes(picture)))

    def test_each_fault_in_its_sequence(self):
        chance = random.Random(7)
        words = {"pieces": set(), "holes": set()}
        for picture in some_pictures(5, 120, 7):
            cells = frame_of(picture)
            for _ in range(12):
                value = spoilt(chance, pieces(picture), cells)
                fault = judge_pieces(picture, value)
                self.assertEqual(fault, plain_judge_pieces(picture, value))
                words["pieces"].add(fault and fault[0])
                value = spoilt(chance, holes(picture), cells)
                fault = judge_holes(picture, value)
                self.assertEqual(fault, plain_judge_holes(picture, value))
                words["holes"].add(fault and fault[0])
        self.assertEqual(words["pieces"], {None, "cell", "twice", "apart", "near"})
        self.assertEqual(words["holes"], {None, "cell", "twice", "apart", "open", "lacks"})

    def test_form(self):
        one = ((0, 0),)
        for value in (None, [], list(pieces(one)), ([(0, 0)],), ((),), (one, one), (((1, 0),), one), one, (((0, 0, 0),),),
                      (((False, 0),),), (((0, False),),), (((0, 0), (0, 0)),), (((1, 0), (0, 0)),), ((None,),)):
            self.assertEqual(judge_pieces(one, value), ("form",))
            self.assertEqual(judge_holes(one, value), ("form",))

    def test_any_value(self):
        for value in ODD_VALUES + (nested(40), (((0, 0), (10 ** 59, 1)),)):
            for picture in ((), ((0, 0),), RINGS):
                self.assertEqual(judge_pieces(picture, value), plain_judge_pieces(picture, value))
                self.assertEqual(judge_holes(picture, value), plain_judge_holes(picture, value))


if __name__ == "__main__":
    unittest.main()
