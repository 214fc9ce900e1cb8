"""boneways/house.py: points 14.2 and 14.3."""

import copy
import random
import unittest

from boneways.errors import BadDeed, NothingDone
from boneways.house import House
from boneways.kept import (
    addable_now, done, effect, first_torn, is_kept, new_board, redone, simple_now, undone)
from boneways.pages import letters_of
from boneways.pieces import holes, pieces
from tests.plain import ODD_VALUES, frame_of, nested
from tests.test_kept import BAR, RING, some_deed
from tests.test_pieces import CORNERS, RINGS, some_pictures

HOOK = ((0, 0), (0, 1), (1, 0))


class Standing(unittest.TestCase):
    def same(self, house, board):
        """Whether a house shows all that is told of a board."""
        picture = board["picture"]
        self.assertEqual(house.board(), board)
        self.assertEqual((house.picture(), house.deeds()), (picture, board["log"]))
        self.assertEqual(house.counts(), (len(pieces(picture)), len(holes(picture)), board["euler"]))
        self.assertEqual((house.kept(), house.torn()), (is_kept(board), first_torn(board)))
        self.assertEqual((house.simple(), house.addable()), (simple_now(board), addable_now(board)))
        self.assertEqual(house.letters(), letters_of(picture))

    def test_a_new_house(self):
        for picture in some_pictures(1, 5, 6) + [(), ((5, 5),), RING, RINGS, CORNERS]:
            self.same(House(picture), new_board(picture))

    def test_any_deeds(self):
        chance = random.Random(2)
        for picture in some_pictures(3, 5, 5) + [(), HOOK, RINGS]:
            house, board = House(picture), new_board(picture)
            for _ in range(30):
                way = chance.randrange(4)
                if way == 0 and board["log"]:
                    board = undone(board)
                    self.assertEqual(house.undo(), len(board["log"]))
                elif way == 1 and board["back"]:
                    board = redone(board)
                    self.assertEqual(house.redo(), len(board["log"]))
                else:
                    deed = some_deed(chance, board["picture"])
                    self.assertEqual(house.effect_of(deed), effect(board, deed))
                    board = done(board, deed)
                    self.assertEqual(house.do(deed), len(board["log"]))
                self.same(house, board)

    def test_undo_and_redo_where_there_is_none(self):
        house = House(HOOK)
        for told in (house.undo, house.redo):
            with self.assertRaises(NothingDone):
                told()
        self.same(house, new_board(HOOK))
        house.do(("strike", (0, 1)))
        with self.assertRaises(NothingDone):
            house.redo()
        self.assertEqual((house.undo(), house.redo(), house.undo()), (0, 1, 0))
        with self.assertRaises(NothingDone):
            house.undo()
        # What is done now takes away what could be done again.
        house.do(("add", (9, 9)))
        with self.assertRaises(NothingDone):
            house.redo()
        self.assertEqual(house.deeds(), (("add", (9, 9)),))

    def test_what_is_no_deed(self):
        house = House(HOOK)
        house.do(("strike", (0, 1)))
        house.do(("shift", 2, 2))
        house.undo()
        before = house.board()
        wrong = (("strike", (0, 1)), ("add", (0, 0)), ["strike", (0, 0)], ("strike", [0, 0]), ("shift", True, 0),
                 ("strike", (False, 0)), ("shift", 1), "undo", ("undo",), ("add", (1, 1), 1))
        for value in wrong + ODD_VALUES + (nested(40),):
            with self.assertRaises(BadDeed):
                house.do(value)
            # All stays, what can be done again too.
            self.assertEqual(house.board(), before)
        self.assertEqual(house.redo(), 2)

    def test_integers_of_sixty_digits(self):
        house = House(())
        self.assertEqual(house.do(("add", (10 ** 59, -10 ** 59))), 1)
        self.assertEqual(house.do(("add", (0, 0))), 2)
        self.assertEqual((house.counts(), house.kept()), ((2, 0, 2), False))


class Twins(unittest.TestCase):
    def test_they_go_their_own_ways(self):
        house = House(HOOK)
        house.do(("strike", (0, 1)))
        house.do(("add", (5, 5)))
        house.undo()
        twin = house.twin()
        self.assertIsInstance(twin, House)
        self.assertIsNot(twin, house)
        self.assertEqual(twin.board(), house.board())
        # Also in what can be done again.
        self.assertEqual((twin.redo(), twin.picture()), (2, ((0, 0), (1, 0), (5, 5))))
        self.assertEqual((house.picture(), len(house.deeds())), (((0, 0), (1, 0)), 1))
        house.do(("shift", 1, 1))
        with self.assertRaises(NothingDone):
            house.redo()
        self.assertEqual((twin.undo(), twin.redo()), (1, 2))
        self.assertEqual(house.picture(), ((1, 1), (2, 1)))
        third = twin.twin().twin()
        twin.undo()
        self.assertEqual((len(third.deeds()), len(twin.deeds())), (2, 1))

    def test_what_is_returned_is_the_callers_own(self):
        house = House(BAR)
        house.do(("strike", (0, 0)))
        board = house.board()
        before = copy.deepcopy(board)
        board["picture"] = ()
        board["log"] = None
        board.clear()
        self.assertEqual(house.board(), before)
        self.assertEqual((house.picture(), house.undo(), house.twin().redo()), (BAR[1:], 0, 1))
        # A board that was asked for stays as it was then.
        asked = house.board()
        house.do(("shift", 5, 5))
        self.assertEqual(asked["picture"], BAR)


class Blots(unittest.TestCase):
    def test_blot(self):
        house = House(HOOK)
        self.assertEqual(house.blot(((1, 1), (0, 1), (4, 4))), 2)
        self.assertEqual(house.deeds(), (("add", (1, 1)), ("add", (4, 4))))
        # In their order, each once, whatever is black by then.
        self.assertEqual(house.blot(((9, 9), (-3, 0), (9, 9), (1, 1))), 2)
        self.assertEqual(house.deeds()[2:], (("add", (9, 9)), ("add", (-3, 0))))
        self.assertEqual(house.picture(), ((-3, 0), (0, 0), (0, 1), (1, 0), (1, 1), (4, 4), (9, 9)))

    def test_blots_of_black_cells(self):
        house = House(HOOK)
        house.do(("strike", (0, 0)))
        house.undo()
        for cells in ((), HOOK, HOOK[::-1], ((0, 0), (0, 0))):
            before = house.board()
            self.assertEqual(house.blot(cells), 0)
            self.assertEqual(house.board(), before)
        # With none all stays: what was taken back can be done again.
        self.assertEqual(house.redo(), 1)
        house.undo()
        self.assertEqual(house.blot(HOOK + ((7, 7),)), 1)
        with self.assertRaises(NothingDone):
            house.redo()

    def test_blots_are_taken_back_one_by_one(self):
        house = House(())
        cells = tuple((x, y) for x in range(5) for y in range(4))
        self.assertEqual(house.blot(cells), 20)
        self.assertEqual([house.undo() for _ in range(20)], list(range(20))[::-1])
        self.assertEqual(house.picture(), ())


class Counts(unittest.TestCase):
    def test_counts(self):
        for picture in some_pictures(4, 20, 7) + [(), RINGS, CORNERS, RING]:
            many, empty = len(pieces(picture)), len(holes(picture))
            self.assertEqual(House(picture).counts(), (many, empty, many - empty))
            for cell in (frame_of(picture) if picture else [(0, 0)])[::7]:
                house = House(picture)
                effects = house.effect_of(("strike" if cell in picture else "add", cell))
                house.do(("strike" if cell in picture else "add", cell))
                self.assertEqual(house.counts(), (many + effects[0], empty + effects[1], many - empty + effects[2]))

    def test_letters(self):
        self.assertEqual(House(((3, 4), (5, 5))).letters(), (((3, 4), ((0, 0),)), ((5, 5), ((0, 0),))))
        self.assertEqual(House(()).letters(), ())


if __name__ == "__main__":
    unittest.main()
