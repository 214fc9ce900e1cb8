"""boneways/desk.py: point 14.4."""

import random
import unittest

from boneways.deeds import deed_text, log_text
from boneways.desk import Desk
from boneways.errors import NothingDone
from boneways.house import House
from boneways.texts import cells_text, picture_text, read_cells
from tests.plain import ODD_VALUES, frame_of, nested
from tests.test_house import HOOK
from tests.test_kept import RING, some_deed
from tests.test_pieces import RINGS, some_pictures

WORDS = ("undo", "redo", "picture", "cells", "simple", "addable", "log", "counts", "kept", "torn")


def plain_shows(house):
    """What a desk says of a house to each word by which nothing is done."""
    many, holes, euler = house.counts()
    return {"picture": picture_text(house.picture()), "cells": cells_text(house.picture()),
            "simple": cells_text(house.simple()), "addable": cells_text(house.addable()),
            "log": "nothing" if house.deeds() == () else log_text(house.deeds()),
            "counts": "pieces " + str(many) + " holes " + str(holes) + " euler " + str(euler),
            "kept": {True: "yes", False: "no"}[house.kept()],
            "torn": "none" if house.torn() is None else str(house.torn())}


class Shown(unittest.TestCase):
    def test_all_words(self):
        chance = random.Random(1)
        for picture in some_pictures(2, 4, 5) + [(), HOOK, RINGS]:
            desk, house = Desk(picture), House(picture)
            for _ in range(20):
                deed = some_deed(chance, house.picture())
                told = " ".join(str(number) for number in house.effect_of(deed))
                self.assertEqual(desk.say("effect " + deed_text(deed)), told)
                if chance.randrange(4) == 0 and house.deeds():
                    self.assertEqual(desk.say("undo"), str(house.undo()))
                else:
                    self.assertEqual(desk.say(deed_text(deed)), str(house.do(deed)))
                for line, answer in plain_shows(house).items():
                    self.assertEqual(desk.say(line), answer)
                self.assertEqual(desk.house().board(), house.board())

    def test_nothing(self):
        desk = Desk(())
        self.assertEqual([desk.say(word) for word in WORDS],
                         ["refused", "refused", "empty", "-", "-", "-", "nothing", "pieces 0 holes 0 euler 0", "yes",
                          "none"])

    def test_words_word_for_word(self):
        desk = Desk(RING)
        self.assertEqual([desk.say(word) for word in ("counts", "simple", "kept", "torn", "log")],
                         ["pieces 1 holes 1 euler 0", "0,0 0,2 2,0 2,2", "yes", "none", "nothing"])
        self.assertEqual([desk.say("add 1,1"), desk.say("kept"), desk.say("torn"), desk.say("counts")],
                         ["1", "no", "0", "pieces 1 holes 0 euler 1"])
        self.assertEqual([desk.say("shift -3 4"), desk.say("strike -3,4"), desk.say("log")],
                         ["2", "3", "add 1,1\nshift -3 4\nstrike -3,4"])
        self.assertEqual(desk.say("picture"), "at -3 4\n###\n###\n.##")
        self.assertEqual([desk.say("effect add -3,4"), desk.say("effect strike -2,5"), desk.say("effect shift 1 1"),
                          desk.say("effect add 50,50")], ["0 0 0", "0 1 -1", "0 0 0", "1 0 1"])
        # Asking changes nothing.
        self.assertEqual(len(desk.house().deeds()), 3)


class Done(unittest.TestCase):
    def test_undo_and_redo(self):
        desk = Desk(HOOK)
        lines = ("undo", "redo", "strike 0,1", "redo", "undo", "redo", "undo", "undo", "add 7,7", "redo", "undo")
        self.assertEqual([desk.say(line) for line in lines],
                         ["refused", "refused", "1", "refused", "0", "1", "0", "refused", "1", "refused", "0"])
        self.assertEqual(desk.say("cells"), cells_text(HOOK))

    def test_blots(self):
        desk = Desk(HOOK)
        self.assertEqual(desk.say("blot 3,3 0,0 1,1 3,3"), "2")
        self.assertEqual(desk.say("log"), "add 3,3\nadd 1,1")
        self.assertEqual([desk.say("blot -"), desk.say("blot 0,0"), desk.say("undo"), desk.say("blot 0,0"),
                          desk.say("redo")], ["0", "0", "1", "0", "2"])
        # Nothing of a blot is done that cannot be read.
        for line in ("blot", "blot ", "blot 5,5 ", "blot 5,5  6,6", "blot 5,5 x", "blot  5,5", "blot 5 5", "blot5,5",
                     "blot 5,5\n6,6", "blot 1234567890,1", "blot --", "blot - 5,5"):
            self.assertEqual(desk.say(line), "what")
        self.assertEqual(desk.say("log"), "add 3,3\nadd 1,1")
        self.assertEqual(desk.say("blot " + cells_text(((9, 9), (8, -8)))), "2")

    def test_what_is_no_deed_for_this_board(self):
        desk = Desk(HOOK)
        for line in ("strike 1,1", "strike 9,9", "add 0,0", "effect strike 1,1", "effect add 0,0"):
            self.assertEqual(desk.say(line), "what")
        self.assertEqual((desk.say("log"), desk.say("cells")), ("nothing", cells_text(HOOK)))
        self.assertEqual([desk.say("strike 0,0"), desk.say("strike 0,0"), desk.say("add 0,0")], ["1", "what", "2"])

    def test_lines_that_are_near(self):
        desk = Desk(HOOK)
        before = desk.house().board()
        near = [word + " " for word in WORDS] + [" " + word for word in WORDS] + [word + "\n" for word in WORDS]
        near += [word[:-1] for word in WORDS] + [word + "s" for word in WORDS if word != "cells"]
        near += [word.upper() for word in WORDS] + [word + " 0,0" for word in WORDS]
        near += ["", " ", "\n", "-", "0,0", "effect", "effect ", "effect  add 1,1", "effect undo", "effect add 1,1 ",
                 "effect add 1 1", "effect effect add 1,1", "add", "add ", "add 1,1 ", " add 1,1", "add 1,1\n", "add 1 1",
                 "add 01,1", "add -0,1", "add 1,1\nadd 2,2", "add 1,1 2,2", "shift 1,1", "shift 1", "shift 1 1 1",
                 "strike 0,0,0", "strike  0,0", "Strike 0,0", "do add 1,1", "house", "board", "twin", "letters",
                 "what", "refused", "nothing", "shift 1 " + "1" * 61]
        for line in near:
            self.assertEqual(desk.say(line), "what", repr(line))
        self.assertEqual(desk.house().board(), before)

    def test_any_value(self):
        desk = Desk(HOOK)
        for value in ODD_VALUES + (nested(40), b"undo", ["undo"], ("add", (1, 1)), ("undo",)):
            self.assertEqual(desk.say(value), "what")
        self.assertEqual(desk.house().deeds(), ())

    def test_integers_of_sixty_digits(self):
        desk = Desk(HOOK)
        long = "1" * 60
        self.assertEqual(desk.say(f"effect add {long},-{long}"), "1 0 1")
        self.assertEqual(desk.say(f"shift {long} -{long}"), "1")
        self.assertEqual(desk.say("log"), f"shift {long} -{long}")
        self.assertEqual(desk.house().picture()[0], (int(long), -int(long)))


class Houses(unittest.TestCase):
    def test_the_same_house_at_each_call(self):
        desk = Desk(HOOK)
        house = desk.house()
        self.assertIsInstance(house, House)
        self.assertIs(desk.house(), house)
        # What is done to it counts for say, and the other way.
        house.do(("add", (5, 5)))
        self.assertEqual([desk.say("cells"), desk.say("undo"), desk.say("undo")], ["0,0 0,1 1,0 5,5", "0", "refused"])
        with self.assertRaises(NothingDone):
            house.undo()
        self.assertEqual((house.redo(), desk.say("log")), (1, "add 5,5"))
        desk.say("strike 0,0")
        self.assertEqual(house.picture(), ((0, 1), (1, 0), (5, 5)))
        # A twin goes its own way, and so does another desk.
        twin, other = house.twin(), Desk(HOOK)
        twin.do(("shift", 9, 9))
        self.assertEqual((desk.say("cells"), other.say("log")), ("0,1 1,0 5,5", "nothing"))
        self.assertIs(desk.house(), house)

    def test_each_cell_of_a_picture(self):
        for cell in frame_of(RING):
            desk, text = Desk(RING), cells_text((cell,))
            line = ("strike " if cell in RING else "add ") + text
            self.assertEqual(desk.say(line), "1")
            self.assertEqual(cell in read_cells(desk.say("cells")), cell not in RING)


if __name__ == "__main__":
    unittest.main()
