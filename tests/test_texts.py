"""boneways/texts.py: points 1.5 and 1.6."""

import random
import re
import unittest

from boneways.errors import BadText
from boneways.pictures import picture_of
from boneways.texts import cells_text, picture_text, read_cells, read_picture
from tests.plain import ODD_VALUES, drawn, nested, pictures_within

HOOK = ((0, 0), (0, 1), (1, 0))
NUMBER = r"(0|-?[1-9][0-9]{0,8})"


def place_told(read, text):
    """The place that reading the text tells, None if it is read."""
    try:
        read(text)
    except BadText as error:
        return error.place
    return None


def is_picture_form(text):
    rows = re.fullmatch(rf"at {NUMBER} {NUMBER}((\n[#.]+)+)", text)
    return text == "empty" or rows is not None and len({len(row) for row in rows.group(3)[1:].split("\n")}) == 1


def is_cells_form(text):
    return text == "-" or re.fullmatch(rf"{NUMBER},{NUMBER}( {NUMBER},{NUMBER})*", text) is not None


def fillings(text, endings, is_form):
    """Whether some ending makes the text one of the form."""
    return any(is_form(text + ending) for ending in endings)


def plain_place(text, endings, is_form):
    """The number of signs of the longest beginning that some ending completes, tried one by one."""
    return max(n for n in range(len(text) + 1) if fillings(text[:n], endings, is_form))


# Whatever is the beginning of a text of the form becomes one by one of these endings.
PICTURE_ENDINGS = ["empty"[n:] for n in range(6)] + ["at 0 0\n#"[n:] for n in range(9)]
PICTURE_ENDINGS += ["1 0\n#", "1\n#", "\n#", " 0\n#"] + ["#" * n for n in range(12)]
CELLS_ENDINGS = ["", "-", "1", "0,0", "1,0", ",0", "0", ",1"]


class PictureTexts(unittest.TestCase):
    def test_picture_text(self):
        self.assertEqual(picture_text(()), "empty")
        self.assertEqual(picture_text(((-999999999, 999999999),)), "at -999999999 999999999\n#")
        self.assertEqual(picture_text(drawn("#..", "..#")), "at 0 0\n#..\n..#")

    def test_there_and_back(self):
        for picture in pictures_within(3, 3):
            self.assertEqual(read_picture(picture_text(picture)), picture)
        self.assertEqual(read_picture("at -2 3\n.#\n#."), ((-2, 3), (-1, 4)))
        great = picture_of([(x, y) for x in range(88) for y in range(88) if x in (0, 87) or y in (0, 87)])
        self.assertEqual(read_picture(picture_text(great)), great)

    def test_no_text(self):
        for value in ODD_VALUES + (nested(40), ["at 0 0\n#"], ("empty",)):
            if not isinstance(value, str):
                self.assertEqual(place_told(read_picture, value), 0)
                self.assertEqual(place_told(read_cells, value), 0)

    def test_edges_without_black_cells(self):
        for text in ("at 0 0\n.", "at 0 0\n.#", "at 0 0\n#.", "at 0 0\n#\n.", "at 0 0\n.\n#", "at 0 0\n..#\n.#."):
            self.assertEqual(place_told(read_picture, text), 0)

    def test_places_one_by_one(self):
        told = {"": 0, "x": 0, "e": 1, "emptx": 4, "empty": None, "empty ": 5, "empty\n": 5, "a": 1, "at": 2, "at ": 3,
                "ar": 1, "at  ": 3, "at 0": 4, "at 00": 4, "at -": 4, "at -0 0\n#": 4, "at --1 0\n#": 4, "at 1x": 4,
                "at +1 0\n#": 3, "at 123456789 0\n#": None, "at 1234567890 0\n#": 12, "at -1234567890 0\n#": 13,
                "at 0 0": 6, "at 0 0\n": 7, "at 0 0 ": 6, "at 0 0\n\n": 7, "at 0 0\n#\n": 9, "at 0 0\n#\n\n": 9,
                "at 0 0\n#\n##": 10, "at 0 0\n##\n#": 11, "at 0 0\n##\n#\n##": 11, "at 0 0\n#x": 8, "at 0 0\n# \n#": 8,
                "at 0 0\n#\r\n#": 8, "at 0 0\n##\n##x": 12, "at 0 0\n##\n###": 12, "at 0 0\n##\n#x": 11,
                "At 0 0\n#": 0, "at 0,0\n#": 4, "at\t0 0\n#": 2, "at 0 0\n#\n.x": 10, "at 0 007\n#": 6, "EMPTY": 0}
        for text, place in told.items():
            self.assertEqual(place_told(read_picture, text), place, repr(text))

    def test_cut_short_at_each_place(self):
        text = "at -12 305\n#..\n.##\n..#"
        self.assertIsNone(place_told(read_picture, text))
        for n in range(len(text)):
            if text[:n] not in ("at -12 305\n#..\n.##", "at -12 305\n#", "at -12 305\n#.", "at -12 305\n#.."):
                self.assertEqual(place_told(read_picture, text[:n]), n)
        for n in range(5):
            self.assertEqual(place_told(read_picture, "empty"[:n]), n)

    def test_changed_at_each_place(self):
        chance = random.Random(5)
        signs = "at empty-0123456789#.\n,x"
        for text in ("at -1 20\n#.\n.#", "at 0 123456789\n###\n...\n#.#", "empty", "at 5 -5\n#"):
            for n in range(len(text) + 1):
                for _ in range(40):
                    tried = text[:n] + "".join(chance.choice(signs) for _ in range(chance.randrange(3)))
                    tried += text[n + chance.randrange(2):]
                    place = place_told(read_picture, tried)
                    if is_picture_form(tried):
                        self.assertIn(place, (None, 0), repr(tried))
                    else:
                        self.assertEqual(place, plain_place(tried, PICTURE_ENDINGS, is_picture_form), repr(tried))

    def test_long_texts(self):
        rows = ["#" * 89] * 88
        text = "at 0 0\n" + "\n".join(rows)
        self.assertEqual(len(read_picture(text)), 88 * 89)
        self.assertEqual(place_told(read_picture, text + "\n#"), len(text) + 2)
        self.assertEqual(place_told(read_picture, "at 0 0" + "\n#" * 3990 + "#"), 6 + 2 * 3990)


class CellsTexts(unittest.TestCase):
    def test_cells_text(self):
        self.assertEqual(cells_text(()), "-")
        self.assertEqual(cells_text(((4, 4), (-1, 0), (4, 4))), "4,4 -1,0 4,4")

    def test_there_and_back(self):
        for cells in ((), ((0, 0),), ((5, -5), (5, -5), (-123456789, 987654321)), HOOK[::-1], ((1, 2),) * 700):
            self.assertEqual(read_cells(cells_text(cells)), cells)

    def test_places_one_by_one(self):
        told = {"": 0, " ": 0, "-": None, "- ": 1, "--": 1, "-,": 1, "-0,1": 1, "-5": 2, "-5,": 3, "-5,3": None, "1": 1,
                "1,": 2, "1,2 ": 4, "1,2  3,4": 4, "1,2 -": 5, "1,2 3": 5, "1,2,3": 3, "01,2": 1, "1,02": 3, "1;2": 1,
                "1234567890,1": 9, "1,1234567890": 11, "1,2\n3,4": 3, "x": 0, "1,2 3,4x": 7, "1, 2": 2, "+1,2": 0}
        for text, place in told.items():
            self.assertEqual(place_told(read_cells, text), place, repr(text))

    def test_cut_short_and_changed_at_each_place(self):
        chance = random.Random(6)
        for text in ("10,-2 3,456 0,0", "-7,123456789", "-"):
            for n in range(len(text) + 1):
                for _ in range(40):
                    tried = text[:n] + "".join(chance.choice("0123-, x") for _ in range(chance.randrange(3)))
                    tried += text[n + chance.randrange(2):] if chance.randrange(4) else ""
                    place = place_told(read_cells, tried)
                    if is_cells_form(tried):
                        self.assertIsNone(place, repr(tried))
                    else:
                        self.assertEqual(place, plain_place(tried, CELLS_ENDINGS, is_cells_form), repr(tried))


if __name__ == "__main__":
    unittest.main()
