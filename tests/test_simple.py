"""boneways/simple.py: points 3.1 to 3.5."""

import random
import unittest

from boneways.pictures import picture_of, posed, shifted, taken_out
from boneways.pieces import euler
from boneways.simple import (
    addable, all_changes, cells_of_code, changed, code_at, code_numbers, code_pieces, code_rooms, is_addable, is_change,
    is_lot, is_simple, is_simple_code, judge_changes, judge_struck, keeps, simple_cells, simple_codes, struck,
    turned_code, with_cell, without_cell)
from boneways.tree import form_of
from tests.plain import (
    ODD_VALUES, drawn, frame_of, is_beside, is_near, nested, parted, parts_of, pictures_within, plain_struck_fault)
from tests.test_pieces import CORNERS, RINGS, some_pictures

ROUND = ((1, 0), (1, 1), (0, 1), (-1, 1), (-1, 0), (-1, -1), (0, -1), (1, -1))
CODES = range(256)


def led(cell, t):
    """Where the turn number t leads a cell."""
    x, y = cell
    if t >= 4:
        x = -x
    for _ in range(t % 4):
        x, y = -y, x
    return (x, y)


class Codes(unittest.TestCase):
    def test_code_at(self):
        for number, (x, y) in enumerate(ROUND):
            self.assertEqual(code_at(((x + 7, y - 9),), (7, -9)), 2 ** number)
        self.assertEqual(code_at((), (0, 0)), 0)
        self.assertEqual(code_at(RINGS, (999999, -999999)), 0)
        for picture in some_pictures(1, 5, 5):
            for x, y in frame_of(picture):
                numbers = [n for n, (i, j) in enumerate(ROUND) if (x + i, y + j) in picture]
                self.assertEqual(code_at(picture, (x, y)), sum(2 ** n for n in numbers))
                self.assertEqual(code_numbers(code_at(picture, (x, y))), tuple(numbers))

    def test_cells_of_code(self):
        for code in CODES:
            cells = cells_of_code((4, -6), code)
            self.assertEqual(cells, tuple(sorted((ROUND[n][0] + 4, ROUND[n][1] - 6) for n in code_numbers(code))))
            self.assertEqual(code_at(cells, (4, -6)), code)

    def test_turned_code(self):
        for code in CODES:
            for t in range(8):
                turned = posed(cells_of_code((3, 8), code), t)
                self.assertEqual(turned_code(code, t), code_at(turned, led((3, 8), t)))

    def test_pieces_and_rooms(self):
        place = {number: cell for number, cell in enumerate(ROUND)}
        for code in CODES:
            black = [place[n] for n in range(8) if code >> n & 1]
            white = [place[n] for n in range(8) if not code >> n & 1]
            lots = [tuple(sorted(ROUND.index(cell) for cell in lot)) for lot in parted(black, is_near)]
            rooms = [tuple(sorted(ROUND.index(cell) for cell in lot)) for lot in parted(white, is_beside)]
            self.assertEqual(code_pieces(code), tuple(sorted(lots)))
            self.assertEqual(code_rooms(code), tuple(sorted(rooms)))
            with_side = [room for room in rooms if any(number % 2 == 0 for number in room)]
            self.assertIs(is_simple_code(code), len(lots) == 1 and len(with_side) == 1)

    def test_simple_codes(self):
        self.assertEqual(simple_codes(), tuple(code for code in CODES if is_simple_code(code)))
        self.assertEqual(len(simple_codes()), 116)
        self.assertEqual([is_simple_code(code) for code in (0, 255, 85, 170, 254, 253)],
                         [False, False, False, False, True, False])


class Striking(unittest.TestCase):
    def test_is_lot(self):
        bar = ((0, 0), (1, 0), (2, 0))
        for lot in parts_of(bar):
            self.assertIs(is_lot(bar, lot), True)
        for value in ODD_VALUES + (nested(40), list(bar), bar[::-1], ((0, 0), (0, 0)), ((0, 0), (0, 1)), ((False, 0),),
                                   ((True, 0),), ([0, 0],), ((0, 0), None), (10 ** 59, 0), (0, 0)):
            self.assertIs(is_lot(bar, value), value == () and isinstance(value, tuple))

    def test_struck(self):
        self.assertEqual(struck(CORNERS, CORNERS[2:5]), taken_out(CORNERS, CORNERS[2:5]))
        self.assertEqual(struck(CORNERS, ()), CORNERS)

    def test_all_lots_of_small_pictures(self):
        for picture in pictures_within(3, 3):
            for lot in parts_of(picture):
                fault = plain_struck_fault(picture, lot)
                self.assertEqual(judge_struck(picture, lot), fault)
                self.assertIs(keeps(picture, lot), fault is None)

    def test_lots_of_greater_pictures(self):
        chance = random.Random(4)
        words = set()
        for picture in some_pictures(6, 60, 7) + [RINGS] * 20:
            lot = tuple(sorted(chance.sample(picture, chance.randrange(1, min(12, len(picture))))))
            fault = plain_struck_fault(picture, lot)
            self.assertEqual(judge_struck(picture, lot), fault)
            words.add(fault and fault[0])
        self.assertLessEqual({"lost", "torn", "joined"}, words)

    def test_faults_in_their_sequence(self):
        full = picture_of([(x, y) for x in range(5) for y in range(5)])
        self.assertEqual(judge_struck(full, ((2, 2), (3, 3))), ("new", (2, 2)))
        self.assertEqual(judge_struck(full, ((1, 3), (3, 1))), ("new", (1, 3)))
        with_hole = without_cell(full, (1, 1))
        self.assertEqual(judge_struck(with_hole, ((1, 0), (3, 3))), ("joined", (1, 1)))
        self.assertEqual(judge_struck(with_hole, ((2, 1), (3, 3))), ("new", (3, 3)))
        two = with_hole + ((7, 0), (8, 0), (9, 0))
        self.assertEqual(judge_struck(two, ((1, 0), (8, 0))), ("torn", (7, 0)))
        three = two + ((12, 5),)
        self.assertEqual(judge_struck(three, ((1, 0), (8, 0), (12, 5))), ("lost", (12, 5)))
        self.assertEqual(judge_struck((), ()), None)

    def test_a_cell_by_itself(self):
        for picture in pictures_within(3, 4)[::3] + some_pictures(7, 8, 8) + [RINGS, CORNERS]:
            kept = tuple(cell for cell in picture if keeps(picture, (cell,)))
            self.assertEqual(simple_cells(picture), kept)
            for cell in picture:
                self.assertIs(is_simple(picture, cell), cell in kept)
        self.assertIs(is_simple(CORNERS, (1, 1)), False)
        self.assertIs(is_simple((), (0, 0)), False)
        self.assertIs(is_simple(((0, 0), (1, 0)), (-1, 0)), False)


class Adding(unittest.TestCase):
    def test_addable(self):
        for picture in some_pictures(8, 12, 6) + [CORNERS, ((0, 0),)]:
            told = addable(picture)
            self.assertEqual(told, tuple(cell for cell in frame_of(picture) if cell in told))
            for cell in frame_of(picture):
                may = cell not in picture and is_simple(with_cell(picture, cell), cell)
                self.assertIs(is_addable(picture, cell), may)
                self.assertEqual(cell in told, may)
                if may:
                    self.assertEqual(form_of(with_cell(picture, cell)), form_of(picture))
        self.assertEqual(addable(()), ())
        self.assertIs(is_addable((), (0, 0)), False)

    def test_with_and_without(self):
        bar = ((0, 0), (2, 0))
        self.assertEqual(with_cell(bar, (1, 0)), ((0, 0), (1, 0), (2, 0)))
        self.assertEqual(with_cell(bar, (2, 0)), bar)
        self.assertEqual(without_cell(bar, (2, 0)), ((0, 0),))
        self.assertEqual(without_cell(bar, (1, 0)), bar)
        self.assertEqual(with_cell((), (-1, -1)), ((-1, -1),))


class Changes(unittest.TestCase):
    def test_all_changes(self):
        for picture in some_pictures(9, 8, 6) + [(), ((5, 5),), CORNERS]:
            told = all_changes(picture)
            strikes = [(cell, 0) for cell in simple_cells(picture)]
            self.assertEqual(told, tuple(sorted(strikes + [(cell, 1) for cell in addable(picture)])))
            for change in told:
                self.assertIs(is_change(picture, change), True)
                behind = changed(picture, change)
                self.assertEqual(form_of(behind), form_of(picture))
                self.assertEqual(euler(behind), euler(picture))
                self.assertEqual(changed(behind, (change[0], 1 - change[1])), picture)
                self.assertIs(is_change(behind, (change[0], 1 - change[1])), True)
                self.assertIs(is_change(picture, (change[0], 1 - change[1])), False)

    def test_is_change_of_any_value(self):
        bar = ((0, 0), (1, 0), (2, 0))
        wrong = (((0, 0), False), ((3, 0), True), ((0, 0), 2), ((0, 0), -1), ((0, False), 0), ([0, 0], 0), [(0, 0), 0],
                 ((0, 0), 0, 0), ((1, 0), 0), ((4, 0), 1), ((0, 0), 1), ((3, 0), 0), ((0, 0),), ((0, 0), "0"),
                 ((0, 0), 10 ** 59), ((10 ** 59, 0), 1), ((0, 0), None))
        for value in wrong + ODD_VALUES + (nested(40),):
            self.assertIs(is_change(bar, value), False)
        self.assertIs(is_change(bar, ((0, 0), 0)), True)
        self.assertIs(is_change(bar, ((3, -1), 1)), True)

    def test_judge_changes(self):
        bar = ((0, 0), (1, 0), (2, 0))
        row = [((0, 0), 0), ((0, 0), 1), ((3, 1), 1), ((3, 1), 0), ((2, 0), 0)]
        self.assertIsNone(judge_changes(bar, row))
        self.assertIsNone(judge_changes(bar, tuple(row)))
        self.assertEqual(len(row), 5)
        self.assertIsNone(judge_changes(bar, []))
        self.assertIsNone(judge_changes((), ()))
        self.assertEqual(judge_changes(bar, [row[0], row[0]]), ("change", 1))
        self.assertEqual(judge_changes(bar, (row[0], None, 5)), ("change", 1))
        self.assertEqual(judge_changes(bar, [((0, 0), False)]), ("change", 0))
        self.assertEqual(judge_changes(bar, [((1, 0), 0), row[0]]), ("change", 0))
        for value in ODD_VALUES + (nested(40),):
            if isinstance(value, (list, tuple)) and value:
                self.assertEqual(judge_changes(bar, value), ("change", 1 if value[0] == ((0, 0), 0) else 0))
            else:
                self.assertEqual(judge_changes(bar, value), None if value in ((), []) else ("form",))

    def test_long_walks_keep_the_tree(self):
        chance = random.Random(10)
        for start in (RINGS, CORNERS, shifted(drawn("##.", "#.#", ".##"), -999990, 999990)):
            picture, row = start, []
            for _ in range(200):
                row.append(chance.choice(all_changes(picture)))
                picture = changed(picture, row[-1])
            self.assertIsNone(judge_changes(start, row))
            self.assertEqual(form_of(picture), form_of(start))
            back = [(cell, 1 - kind) for cell, kind in reversed(row)]
            self.assertIsNone(judge_changes(picture, tuple(back)))
            for change in back:
                picture = changed(picture, change)
            self.assertEqual(picture, start)


if __name__ == "__main__":
    unittest.main()
