"""boneways/deeds.py: point 14.1."""

import random
import re
import unittest

from boneways.deeds import deed_text, log_text, read_deed, read_log
from boneways.errors import BadText
from tests.plain import ODD_VALUES, nested

NUMBER = "(0|-?[1-9][0-9]{0,59})"
DEED = f"((strike|add) {NUMBER},{NUMBER}|shift {NUMBER} {NUMBER})"
LOG = f"({DEED}(\n{DEED})*)?"
# Each beginning of a text that can be read is ended to one by the end of one of these.
SAMPLES = ("strike 1,1", "add 1,1", "shift 1 1")
ENDS = sorted({sample[k:] for sample in SAMPLES for k in range(len(sample) + 1)})
FAR = 10 ** 60 - 1


def is_beginning(text, form):
    return any(re.fullmatch(form, text + end) for end in ENDS)


def plain_place(text, form):
    """The number of signs of the longest beginning that is a beginning of a text of a form."""
    return max(k for k in range(len(text) + 1) if is_beginning(text[:k], form))


def place_of_fault(read, text):
    """The place of the fault that reading tells, None if it tells none."""
    try:
        read(text)
    except BadText as error:
        return error.place
    return None


def some_deeds():
    numbers = (0, 1, -1, 7, -10, 999999, 10 ** 9, -(10 ** 9), FAR, -FAR)
    pairs = [(x, y) for x in numbers for y in numbers[::3]]
    return [("strike", pair) for pair in pairs] + [("add", pair) for pair in pairs] + [("shift", *pair) for pair in pairs]


class Texts(unittest.TestCase):
    def test_deed_text(self):
        self.assertEqual(deed_text(("strike", (2, -1))), "strike 2,-1")
        self.assertEqual(deed_text(("add", (0, 10 ** 6))), "add 0,1000000")
        self.assertEqual(deed_text(("shift", -3, 0)), "shift -3 0")
        self.assertEqual(deed_text(("shift", FAR, -FAR)), "shift " + "9" * 60 + " -" + "9" * 60)
        for deed in some_deeds():
            text = deed_text(deed)
            self.assertTrue(re.fullmatch(DEED, text))
            self.assertEqual(read_deed(text), deed)

    def test_log_text(self):
        self.assertEqual((log_text(()), read_log("")), ("", ()))
        chance = random.Random(1)
        for many in (1, 2, 3, 30, 200):
            deeds = tuple(chance.choice(some_deeds()) for _ in range(many))
            self.assertEqual(log_text(deeds), "\n".join(deed_text(deed) for deed in deeds))
            self.assertEqual(read_log(log_text(deeds)), deeds)
            self.assertEqual(log_text(list(deeds)), log_text(deeds))
        self.assertIsInstance(read_log("add 1,1"), tuple)

    def test_what_is_read_need_be_no_deed_for_a_board(self):
        self.assertEqual(read_log("strike 5,5\nstrike 5,5"), (("strike", (5, 5)),) * 2)


class Faults(unittest.TestCase):
    def test_no_texts(self):
        for value in ODD_VALUES + (nested(40), b"add 1,1", ["add 1,1"], ("add", (1, 1))):
            if not isinstance(value, str):
                self.assertEqual((place_of_fault(read_deed, value), place_of_fault(read_log, value)), (0, 0))

    def test_cut_short_at_each_place(self):
        for text in ("strike -12,345", "add 0,-6", "shift 12 -7", "shift 0 0"):
            for k in range(len(text)):
                whole = bool(re.fullmatch(DEED, text[:k]))
                self.assertEqual(place_of_fault(read_deed, text[:k]), None if whole else k)
                for more in ("x", " ", "\n", "-", ",", "01"):
                    place = place_of_fault(read_deed, text[:k] + more)
                    readable = re.fullmatch(DEED, text[:k] + more)
                    self.assertEqual(place, None if readable else plain_place(text[:k] + more, DEED))

    def test_logs_cut_short_at_each_place(self):
        text = "add 0,0\nshift -3 14\nstrike 1,-2\nadd 5,5"
        for k in range(len(text) + 1):
            whole = bool(re.fullmatch(LOG, text[:k]))
            self.assertEqual(place_of_fault(read_log, text[:k]), None if whole else k)
            if k < len(text):
                for sign in "0a,- \n#":
                    wrong = text[:k] + sign + text[k + 1:]
                    readable = re.fullmatch(LOG, wrong)
                    self.assertEqual(place_of_fault(read_log, wrong), None if readable else plain_place(wrong, LOG))

    def test_words(self):
        for text, place in (("", 0), ("s", 1), ("st", 2), ("sh", 2), ("sx", 1), ("a", 1), ("ad", 2), ("adx", 2),
                            ("x", 0), (" add 1,1", 0), ("Add 1,1", 0), ("shift", 5), ("strike", 6), ("add", 3),
                            ("strike2,1", 6), ("shiftx", 5), ("addadd", 3), ("strift 1 1", 4), ("undo", 0),
                            ("strike  1,1", 7), ("blot 1,1", 0), ("\n", 0)):
            self.assertEqual(place_of_fault(read_deed, text), place)
            if text:
                self.assertEqual(place_of_fault(read_log, text), place)

    def test_signs_between(self):
        for text, place in (("strike 2 1", 8), ("add 2 1", 5), ("shift 2,1", 7), ("shift 2", 7), ("shift 2 ", 8),
                            ("add 1,1 ", 7), ("add 1,1\n", 7), ("add 1, 1", 6), ("add 1,,1", 6), ("shift 1  1", 8),
                            ("add 1,1,1", 7), ("shift 1 1 1", 9), ("add 1,1add 1,1", 7), ("add 1,1\nadd 2,2", 7)):
            self.assertEqual(place_of_fault(read_deed, text), place)
        for text, place in (("add 1,1\n", 8), ("add 1,1\n\nadd 1,1", 8), ("\nadd 1,1", 0), ("add 1,1 \nadd 1,1", 7),
                            ("add 1,1\nshift 1,1", 15), ("add 1,1\nx", 8), ("add 1,1\r\nadd 1,1", 7),
                            ("add 1,1\nsub 1,1", 9)):
            self.assertEqual(place_of_fault(read_log, text), place)

    def test_integers(self):
        for text, place in (("add 00,1", 5), ("add 01,1", 5), ("add -0,1", 5), ("add +1,1", 4), ("add 1,-", 7),
                            ("add 1,--1", 7), ("add 1,-01", 7), ("add 1.5,1", 5), ("add a,1", 4), ("shift 0 00", 9),
                            ("shift -", 7), ("shift - 1", 7), ("add 1,0x1", 7), ("add \u0661,1", 4), ("add 1,\u00b2", 6)):
            self.assertEqual(place_of_fault(read_deed, text), place)
            self.assertEqual(plain_place(text, DEED), place)

    def test_sixty_digits_and_sixty_one(self):
        long, longer = "1" * 60, "1" * 61
        self.assertEqual(read_deed(f"add {long},-{long}"), ("add", (int(long), -int(long))))
        self.assertEqual(read_deed(f"shift -{long} {long}"), ("shift", -int(long), int(long)))
        self.assertEqual(place_of_fault(read_deed, f"add {longer},1"), 64)
        self.assertEqual(place_of_fault(read_deed, f"add -{longer},1"), 65)
        self.assertEqual(place_of_fault(read_deed, f"add 1,{longer}"), 66)
        self.assertEqual(place_of_fault(read_deed, f"shift 1 -{longer}"), 69)
        self.assertEqual(place_of_fault(read_log, f"add 1,1\nstrike 1,{longer}"), 77)
        self.assertEqual(read_log(f"strike {long},{long}\nadd 1,1")[1], ("add", (1, 1)))

    def test_wrong_signs_anywhere(self):
        chance = random.Random(2)
        signs = "strike add,shift 0123-\n x"
        for _ in range(800):
            text = log_text([chance.choice(some_deeds()) for _ in range(chance.randrange(1, 3))])
            k = chance.randrange(len(text))
            text = text[:k] + chance.choice(signs) + text[k + chance.randrange(2):]
            for read, form in ((read_deed, DEED), (read_log, LOG)):
                if re.fullmatch(form, text):
                    self.assertIsNone(place_of_fault(read, text))
                else:
                    self.assertEqual(place_of_fault(read, text), plain_place(text, form))


if __name__ == "__main__":
    unittest.main()
