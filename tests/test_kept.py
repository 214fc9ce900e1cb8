"""boneways/kept.py: points 12.1 to 12.4, and the errors of 12.5."""

import copy
import random
import unittest

from boneways.errors import BadDeed, NothingDone
from boneways.kept import (
    addable_now, area_of, board_pictures, done, effect, euler_change, first_torn, is_deed, is_kept, near_deed,
    new_board, redone, simple_now, span_of, undone)
from boneways.pictures import near_cells, shifted, united
from boneways.pieces import euler, holes, pieces
from boneways.simple import addable, cells_of_code, is_addable, is_simple, simple_cells
from boneways.tree import form_of
from tests.plain import ODD_VALUES, frame_of, nested, pictures_within, plain_holes, plain_pieces
from tests.test_pieces import CORNERS, RINGS, some_pictures

RING = ((0, 0), (0, 1), (0, 2), (1, 0), (1, 2), (2, 0), (2, 1), (2, 2))
BAR = ((0, 0), (1, 0), (2, 0))
FIELDS = ["picture", "euler", "log", "back"]


def some_deed(chance, picture):
    """Any deed for a picture."""
    way = chance.randrange(5)
    if way == 0:
        return ("shift", chance.randrange(-9, 10), chance.randrange(-10 ** 6, 10 ** 6))
    if way < 3 and picture:
        return ("strike", chance.choice(picture))
    white = [cell for cell in (frame_of(picture) if picture else [(0, 0), (5, -5)]) if cell not in picture]
    return ("add", chance.choice(white))


def plain_behind(picture, deed):
    if deed[0] == "shift":
        return tuple((x + deed[1], y + deed[2]) for x, y in picture)
    return tuple(sorted(set(picture) ^ {deed[1]}))


def boards():
    """Some boards, of which deeds are done, taken back and done again, each with the pictures ahead of its deeds."""
    chance = random.Random(1)
    told = []
    for picture in some_pictures(2, 6, 6) + [(), ((5, 5),), RING, RINGS, CORNERS]:
        board, pictures = new_board(picture), [picture]
        for _ in range(25):
            way = chance.randrange(4)
            if way == 0 and board["log"]:
                board = undone(board)
                pictures = pictures[:-1]
            elif way == 1 and board["back"]:
                pictures = pictures + [plain_behind(pictures[-1], board["back"][-1])]
                board = redone(board)
            else:
                deed = some_deed(chance, pictures[-1])
                pictures = pictures + [plain_behind(pictures[-1], deed)]
                board = done(board, deed)
            told.append((board, pictures))
    return told


class Boards(unittest.TestCase):
    def test_new_board(self):
        for picture in pictures_within(3, 3)[::7] + [RINGS, CORNERS, ()]:
            board = new_board(picture)
            self.assertEqual(sorted(board), sorted(FIELDS))
            self.assertEqual(board, {"picture": picture, "euler": euler(picture), "log": (), "back": ()})
        self.assertIsInstance(new_board(()), dict)

    def test_each_field_and_all_pictures(self):
        for board, pictures in boards():
            self.assertEqual(sorted(board), sorted(FIELDS))
            self.assertEqual(board["picture"], pictures[-1])
            self.assertEqual(board_pictures(board), pictures)
            self.assertIsInstance(board_pictures(board), list)
            self.assertEqual(len(board_pictures(board)), len(board["log"]) + 1)
            self.assertIsInstance(board["log"], tuple)
            self.assertIsInstance(board["back"], tuple)
            counted = len(pieces(pictures[-1])) - len(holes(pictures[-1]))
            self.assertEqual((board["euler"], euler(pictures[-1])), (counted, counted))

    def test_ways_back(self):
        for board, _ in boards():
            if board["log"]:
                last = board["log"][-1]
                before = undone(board)
                self.assertEqual((before["log"], before["back"]), (board["log"][:-1], board["back"] + (last,)))
                self.assertEqual(redone(before), board)
            else:
                with self.assertRaises(NothingDone):
                    undone(board)
            if board["back"]:
                following = board["back"][-1]
                behind = redone(board)
                self.assertEqual((behind["log"], behind["back"]), (board["log"] + (following,), board["back"][:-1]))
                self.assertEqual(undone(behind), board)
            else:
                with self.assertRaises(NothingDone):
                    redone(board)

    def test_taken_back_and_others_done_then(self):
        first = new_board(BAR)
        late = done(done(done(first, ("strike", (0, 0))), ("shift", 0, 3)), ("add", (5, 5)))
        back = undone(undone(late))
        self.assertEqual((back["picture"], back["back"]), (BAR[1:], (("add", (5, 5)), ("shift", 0, 3))))
        self.assertEqual(redone(back)["picture"], ((1, 3), (2, 3)))
        self.assertEqual(redone(redone(back)), late)
        other = done(back, ("strike", (2, 0)))
        self.assertEqual((other["log"], other["back"]), ((("strike", (0, 0)), ("strike", (2, 0))), ()))
        with self.assertRaises(NothingDone):
            redone(other)
        self.assertEqual(undone(undone(other))["back"], (("strike", (2, 0)), ("strike", (0, 0))))
        self.assertEqual(undone(undone(other))["picture"], BAR)

    def test_nothing_done(self):
        for picture in ((), RING):
            for told in (undone, redone):
                with self.assertRaises(NothingDone):
                    told(new_board(picture))
            self.assertEqual(board_pictures(new_board(picture)), [picture])
            self.assertEqual((is_kept(new_board(picture)), first_torn(new_board(picture))), (True, None))

    def test_shifts(self):
        board = done(done(new_board(RING), ("shift", 10 ** 6, -10 ** 6)), ("shift", 0, 0))
        self.assertEqual(board["picture"], shifted(RING, 10 ** 6, -10 ** 6))
        self.assertEqual((board["euler"], len(board["log"]), is_kept(board)), (0, 2, True))
        self.assertEqual(undone(undone(board))["picture"], RING)
        self.assertEqual(done(new_board(()), ("shift", 1, 2))["picture"], ())

    def test_no_board_is_modified(self):
        for board, _ in boards()[::9]:
            before = copy.deepcopy(board)
            deeds = [deed for deed in (("shift", 1, 1), ("add", (77, 77))) if is_deed(board, deed)]
            for deed in deeds:
                done(board, deed)
                effect(board, deed)
            if board["log"]:
                undone(board)
            if board["back"]:
                redone(board)
            told = board_pictures(board)
            told.append(7)
            told[0] = None
            self.assertEqual(board, before)
            self.assertNotEqual(board_pictures(board), told)


class Deeds(unittest.TestCase):
    def test_is_deed(self):
        board = new_board(BAR)
        for deed in (("strike", (0, 0)), ("strike", (2, 0)), ("add", (0, 1)), ("add", (-9, 10 ** 6)), ("shift", 0, 0),
                     ("shift", -4, 10 ** 6), ("add", (10 ** 59, 0)), ("shift", 10 ** 59, -10 ** 59)):
            self.assertIs(is_deed(board, deed), True)
            self.assertEqual(done(board, deed)["log"], (deed,))
        self.assertIs(is_deed(new_board(()), ("add", (0, 0))), True)

    def test_what_is_none(self):
        board = new_board(BAR)
        wrong = (("strike", (0, 1)), ("add", (0, 0)), ("strike", [0, 0]), ["strike", (0, 0)], ("strike", (False, 0)),
                 ("strike", (0, False)), ("strike", (True, 0)), ("add", (True, 1)), ("shift", True, 0),
                 ("shift", 0, False), ("shift", 1), ("shift", (1, 2)), ("shift", 1, 2, 3), ("shift", 1, None),
                 ("strike",), ("add",), ("shift",), ("strike", (0, 0), 0), ("strike", (0, 0, 0)), ("strike", None),
                 ("strike", 0, 0), ("Strike", (0, 0)), ("", (0, 0)), ("add", "0,1"), ("shift", "1", "2"), (None, (0, 0)),
                 (("strike",), (0, 0)), (True, (0, 0)), ((), (0, 0)), ({}, (0, 0)), (["strike"], (0, 0)),
                 ("shift", [1], 2), ("shift", [1, 2]), "strike", {"strike": (0, 0)})
        for value in wrong + ODD_VALUES + (nested(40), ("strike", nested(39)), ("add", nested(39)), ("shift", {}, {})):
            self.assertIs(is_deed(board, value), False)
            with self.assertRaises(BadDeed):
                done(board, value)
        self.assertEqual(board, new_board(BAR))
        with self.assertRaises(BadDeed):
            done(new_board(()), ("strike", (0, 0)))


class Euler(unittest.TestCase):
    def test_euler_change(self):
        for code in range(256):
            round_about = cells_of_code((3, -4), code)
            behind = tuple(sorted(round_about + ((3, -4),)))
            rise = len(plain_pieces(behind)) - len(plain_holes(behind))
            rise -= len(plain_pieces(round_about)) - len(plain_holes(round_about))
            self.assertEqual(euler_change(code), rise)
        self.assertEqual([euler_change(code) for code in (0, 255, 85, 170, 17, 1, 254)], [1, 1, 1, -3, -1, 0, 0])

    def test_it_hangs_on_the_round_alone(self):
        for picture in some_pictures(3, 10, 6) + [RINGS, CORNERS]:
            for cell in frame_of(picture):
                code = sum(1 << k for k, near in enumerate(near_cells(cell)) if near in picture)
                with_it, without_it = set(picture) | {cell}, set(picture) - {cell}
                rise = euler(tuple(sorted(with_it))) - euler(tuple(sorted(without_it)))
                self.assertEqual(euler_change(code), rise)

    def test_effect(self):
        for picture in pictures_within(3, 3)[::3] + some_pictures(4, 4, 5) + [RINGS, CORNERS]:
            board = new_board(picture)
            cells = frame_of(picture) if picture else [(0, 0)]
            deeds = [("strike" if cell in picture else "add", cell) for cell in cells]
            for deed in deeds + [("shift", 3, -10 ** 6), ("shift", 0, 0)]:
                behind = plain_behind(picture, deed)
                rises = (len(pieces(behind)) - len(pieces(picture)), len(holes(behind)) - len(holes(picture)))
                told = effect(board, deed)
                self.assertEqual(told, rises + (rises[0] - rises[1],))
                self.assertEqual(done(board, deed)["euler"] - board["euler"], told[2])
                if deed[0] == "shift":
                    self.assertEqual(told, (0, 0, 0))
                else:
                    simple = is_simple(picture, deed[1]) or is_addable(picture, deed[1])
                    self.assertEqual(told[2] == 0, simple)
                    self.assertEqual(told == (0, 0, 0), simple)

    def test_effect_of_many_at_once(self):
        self.assertEqual(effect(new_board(((0, 0), (0, 2), (2, 0), (2, 2))), ("add", (1, 1))), (-3, 0, -3))
        self.assertEqual(effect(new_board(CORNERS), ("strike", (2, 1))), (1, -2, 3))
        self.assertEqual(effect(new_board(()), ("add", (9, 9))), (1, 0, 1))
        self.assertEqual(effect(new_board(((9, 9),)), ("strike", (9, 9))), (-1, 0, -1))


class Kept(unittest.TestCase):
    def test_simple_and_addable(self):
        for board, pictures in boards()[::3]:
            self.assertEqual(simple_now(board), simple_cells(pictures[-1]))
            self.assertEqual(addable_now(board), addable(pictures[-1]))

    def test_near_deed(self):
        for picture in some_pictures(5, 5, 5) + [RING, CORNERS]:
            board = new_board(picture)
            for cell in frame_of(picture):
                deed = ("strike" if cell in picture else "add", cell)
                near = near_deed(board, deed)
                self.assertEqual(near, united((cell,), near_cells(cell)))
                self.assertEqual((len(near), list(near)), (9, sorted(near)))
                behind = done(board, deed)
                changed = set(simple_now(board)) ^ set(simple_now(behind))
                changed |= set(addable_now(board)) ^ set(addable_now(behind))
                self.assertLessEqual(changed, set(near))

    def test_is_kept_and_first_torn(self):
        for board, pictures in boards():
            torn = [k for k, deed in enumerate(board["log"]) if deed[0] != "shift"
                    and not is_simple(pictures[k], deed[1]) and not is_addable(pictures[k], deed[1])]
            self.assertEqual(first_torn(board), torn[0] if torn else None)
            self.assertIs(is_kept(board), not torn)

    def test_kept_boards_keep_the_tree(self):
        chance = random.Random(6)
        for picture in some_pictures(7, 6, 6) + [RING, RINGS]:
            board = new_board(picture)
            for _ in range(20):
                deeds = [("strike", cell) for cell in simple_now(board)] + [("add", cell) for cell in addable_now(board)]
                board = done(board, chance.choice(deeds + [("shift", 1, -2)]))
                self.assertIs(is_kept(board), True)
                self.assertEqual((form_of(board["picture"]), board["euler"]), (form_of(picture), euler(picture)))

    def test_the_deeds_decide(self):
        # Torn and mended: the picture is as it was, and yet the deeds tore it.
        board = done(done(new_board(BAR), ("strike", (1, 0))), ("add", (1, 0)))
        self.assertEqual((board["picture"], is_kept(board), first_torn(board)), (BAR, False, 0))
        # What is taken back counts no more.
        self.assertEqual((is_kept(undone(board)), is_kept(undone(undone(board)))), (False, True))
        late = done(done(done(new_board(BAR), ("shift", 7, 7)), ("strike", (7, 7))), ("strike", (8, 7)))
        self.assertEqual((is_kept(late), first_torn(late)), (True, None))
        late = done(late, ("strike", (9, 7)))
        self.assertEqual((is_kept(late), first_torn(late)), (False, 3))
        self.assertEqual(first_torn(done(late, ("add", (0, 0)))), 3)
        self.assertEqual(first_torn(done(new_board(RING), ("add", (1, 1)))), 0)

    def test_area_and_span(self):
        for board, pictures in boards():
            cells = pictures[-1]
            self.assertEqual(area_of(board), len(cells))
            xs, ys = [x for x, _ in cells], [y for _, y in cells]
            self.assertEqual(span_of(board), (min(xs), min(ys), max(xs), max(ys)) if cells else None)
        self.assertEqual((area_of(new_board(())), span_of(new_board(()))), (0, None))
        self.assertEqual(span_of(new_board(((3, -4),))), (3, -4, 3, -4))


if __name__ == "__main__":
    unittest.main()
