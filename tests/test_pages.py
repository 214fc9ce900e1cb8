"""boneways/pages.py: points 13.1 to 13.6."""

import random
import unittest

from boneways.pages import (
    compare, judge_book, letters_of, lines_of, name_of, near_names, patched, put_glyph, read_page, set_line, signs_of,
    turned_names)
from boneways.pictures import apart, at_home, box_of, least_pose, picture_of, posed, shifted, united
from boneways.pieces import holes, pieces
from boneways.tree import form_of
from tests.plain import ODD_VALUES, drawn, is_beside, nested, plain_pieces
from tests.test_pieces import CORNERS, RINGS, some_pictures

I, L = ((0, 0), (0, 1), (0, 2)), ((0, 0), (0, 1), (0, 2), (1, 0))
O = ((0, 0), (0, 1), (0, 2), (1, 0), (1, 2), (2, 0), (2, 1), (2, 2))
DOT = ((0, 0),)
BOOK = (("i", I), ("l", L), ("o", O))
# Glyphs that lie within one another, and glyphs that hold together by corners alone.
U = drawn("#...#", "#...#", "#...#", "#####")
S = drawn(".##", "##.")
LEAN = drawn(".#", "#.")
GREAT = drawn("#####", "#...#", "#...#", "#...#", "#####")
B = drawn("###", "#.#", "###", "#.#", "###")
WIDE = (("b", B), ("d", DOT), ("g", GREAT), ("i", I), ("l", L), ("n", LEAN), ("o", O), ("s", S), ("u", U))


def some_glyphs():
    """Many glyphs: pieces at home."""
    found = {at_home(piece) for picture in some_pictures(1, 25, 6) + [RINGS, CORNERS] for piece in pieces(picture)}
    return sorted(found | {glyph for _, glyph in WIDE})


def some_pages():
    return some_pictures(2, 20, 8) + [RINGS, CORNERS, (), ((7, -9),), shifted(RINGS, -999, 10 ** 6)]


class Letters(unittest.TestCase):
    def test_letters_of(self):
        for page in some_pages():
            told = []
            for piece in plain_pieces(page):
                place = (min(x for x, _ in piece), min(y for _, y in piece))
                told.append((place, tuple((x - place[0], y - place[1]) for x, y in piece)))
            self.assertEqual(letters_of(page), tuple(sorted(told)))

    def test_put_back(self):
        for page in some_pages():
            for letters in (letters_of(page), letters_of(page)[::-1]):
                back = ()
                for place, glyph in letters:
                    self.assertEqual((box_of(glyph)[:2], len(pieces(glyph))), ((0, 0), 1))
                    back = put_glyph(back, place, glyph)
                self.assertEqual(back, page)

    def test_edges(self):
        self.assertEqual(letters_of(()), ())
        self.assertEqual(letters_of(((5, -5),)), (((5, -5), DOT),))
        # Two letters at one place, one within the bend of the other, and one within a hole.
        page = put_glyph(U, (2, 2), DOT)
        self.assertEqual(letters_of(page), (((0, 0), U), ((2, 2), DOT)))
        arm = drawn("....#", "....#", "#####")
        page = put_glyph(arm, (0, 0), shifted(I, 0, 2))
        self.assertEqual([place for place, _ in letters_of(page)], [(0, 0), (0, 2)])
        bent = drawn("..##", ".#..", "#...")
        self.assertEqual(letters_of(united(bent, ((3, 0),))), (((0, 0), bent), ((3, 0), DOT)))
        page = united(drawn("....", "...#", "..#.", ".#.."), ((0, 3), (1, 3)))
        self.assertEqual([place for place, _ in letters_of(page)], [(0, 3), (1, 0)])
        same = united(((0, 3), (1, 2), (2, 1), (3, 0)), ((0, 0),))
        self.assertEqual([place for place, _ in letters_of(same)], [(0, 0), (0, 0)])
        self.assertEqual(letters_of(same), tuple(sorted(letters_of(same))))
        self.assertEqual(letters_of(put_glyph(GREAT, (2, 2), DOT)), (((0, 0), GREAT), ((2, 2), DOT)))

    def test_put_glyph(self):
        self.assertEqual(put_glyph((), (-3, 10 ** 6), L), shifted(L, -3, 10 ** 6))
        # Black cells stay black, and cells of both are there once.
        self.assertEqual(put_glyph(I, (0, 0), L), L)
        self.assertEqual(put_glyph(L, (0, 0), I), L)


class Books(unittest.TestCase):
    def test_right_books(self):
        alphabet = tuple(("abcdefghijklmnopqrstuvwxyz"[k], tuple((x, 0) for x in range(k + 1))) for k in range(26))
        for book in ((), BOOK, BOOK[:1], WIDE, alphabet):
            self.assertIsNone(judge_book(book))

    def test_form(self):
        for wrong in (None, list(BOOK), [BOOK[0]], (list(BOOK[0]),), (BOOK[0], ("l",)), (("i", I, I),), ("il",), ("i", I),
                      BOOK + (None,), {("i", I): 1}, "book", (BOOK,), 7):
            self.assertEqual(judge_book(wrong), ("form",))

    def test_names(self):
        for wrong in ("", "ii", "I", "?", " ", "7", None, 0, True, ("i",), ["i"], {}, "\n", "`", "{", "ab"):
            self.assertEqual(judge_book(((wrong, I),)), (0, "name"))
            self.assertEqual(judge_book((("a", O), (wrong, I))), (1, "name"))
        # Not greater than the one ahead.
        self.assertEqual(judge_book((("l", L), ("i", I))), (1, "name"))
        self.assertEqual(judge_book((("l", L), ("l", I))), (1, "name"))
        self.assertEqual(judge_book((("a", DOT), ("l", L), ("i", I))), (2, "name"))

    def test_glyphs(self):
        for wrong in ((), ((1, 0),), ((0, 1),), ((-1, 0), (0, 0)), ((0, 0), (2, 0)), [(0, 0)], ((0, 0), (0, 0)), None,
                      ((0, 1), (0, 0)), ((False, 0),), ((0, False),), ([0, 0],), "glyph", 0, ((0, 0, 0),), ((0, 0), ()),
                      shifted(RINGS, 0, 0), ((1, 0), (0, 0))):
            self.assertEqual(judge_book((("i", wrong),)), (0, "glyph"))
            self.assertEqual(judge_book((("a", O), ("i", wrong), ("b", None))), (1, "glyph"))

    def test_each_fault_in_sequence(self):
        self.assertEqual(judge_book((("i", I), ("l", I))), (1, "twice"))
        self.assertEqual(judge_book((("a", O), ("i", I), ("l", L), ("m", O))), (3, "twice"))
        # The form goes ahead of all, then the number of the pair, then the name, the glyph, and last what is twice.
        self.assertEqual(judge_book((("I", ()), ("l",))), ("form",))
        self.assertEqual(judge_book((("i", I), ("l", ()), ("?", ()))), (1, "glyph"))
        self.assertEqual(judge_book((("i", I), ("h", I))), (1, "name"))
        self.assertEqual(judge_book((("i", I), ("h", ()))), (1, "name"))
        self.assertEqual(judge_book((("i", I), ("l", I), ("a", None))), (1, "twice"))
        self.assertEqual(judge_book((("i", I), ("l", shifted(I, 1, 0)))), (1, "glyph"))

    def test_any_value(self):
        for value in ODD_VALUES + (nested(40), (("i", nested(38)),), ((nested(38), I),), ({}, []), (({}, []),)):
            told = judge_book(value)
            if isinstance(value, tuple) and all(isinstance(pair, tuple) and len(pair) == 2 for pair in value):
                named = value != () and isinstance(value[0][0], str) and value[0][0] in ("a", "i")
                self.assertEqual(told, None if value == () else (0, "glyph" if named else "name"))
            else:
                self.assertEqual(told, ("form",))

    def test_name_of(self):
        for name, glyph in WIDE:
            self.assertEqual(name_of(WIDE, glyph), name)
        self.assertEqual([name_of(BOOK, DOT), name_of((), I), name_of(BOOK, posed(I, 1))], [None] * 3)


class Names(unittest.TestCase):
    def test_turned_names(self):
        for glyph in some_glyphs():
            told = []
            for name, each in WIDE:
                turns = [t for t in range(8) if at_home(posed(each, t)) == glyph]
                self.assertEqual(len(turns) > 0, least_pose(each) == least_pose(glyph))
                if turns:
                    told.append((name, turns[0]))
            self.assertEqual(turned_names(WIDE, glyph), tuple(told))

    def test_names_turned_and_mirrored(self):
        mirror = at_home(posed(L, 4))
        book = (("j", mirror), ("l", L), ("z", at_home(posed(S, 4))))
        self.assertEqual(turned_names(book, L), (("j", 4), ("l", 0)))
        self.assertEqual(turned_names(book, mirror), (("j", 0), ("l", 4)))
        self.assertEqual(turned_names(book, at_home(posed(L, 3))), (("j", 7), ("l", 3)))
        self.assertEqual(turned_names(book, S), (("z", 4),))
        self.assertEqual((turned_names(book, I), turned_names((), L)), ((), ()))
        # Of several turns the least.
        self.assertEqual(turned_names(BOOK, O), (("o", 0),))
        self.assertEqual(turned_names((("d", DOT),), DOT), (("d", 0),))
        self.assertEqual(turned_names((("n", LEAN),), at_home(posed(LEAN, 6))), (("n", 1),))

    def test_signs_of(self):
        for glyph in some_glyphs():
            rim = len([cell for cell in glyph for x in range(-1, 12) for y in range(-1, 12)
                       if is_beside(cell, (x, y)) and (x, y) not in glyph])
            told = signs_of(glyph)
            self.assertEqual(told, (len(glyph), len(holes(glyph)), form_of(glyph), rim))
            # They stay however a glyph is turned or mirrored.
            for t in range(1, 8):
                self.assertEqual(signs_of(at_home(posed(glyph, t))), told)
        self.assertEqual(signs_of(DOT), (1, 0, ((),), 4))
        self.assertEqual(signs_of(B), (13, 2, (((), ()),), 24))
        self.assertEqual(signs_of(LEAN), (2, 0, ((),), 8))

    def test_near_names(self):
        for glyph in some_glyphs():
            names = [(len(set(each) ^ set(glyph)), name) for name, each in WIDE if form_of(each) == form_of(glyph)]
            self.assertEqual(near_names(WIDE, glyph), tuple(name for _, name in sorted(names)))

    def test_names_that_are_equally_near(self):
        book = (("a", ((0, 0), (0, 1))), ("b", ((0, 0), (1, 0))), ("c", DOT), ("d", ((0, 0), (1, 1))), ("o", O))
        self.assertEqual(near_names(book, DOT), ("c", "a", "b", "d"))
        self.assertEqual(near_names(book, ((0, 0), (1, 0))), ("b", "c", "a", "d"))
        # As they stand, not turned; and only such with as many holes.
        self.assertEqual(near_names(book, GREAT), ("o",))
        self.assertEqual((near_names(book, B), near_names((), DOT)), ((), ()))
        # No name is too far: seven cells are unlike.
        self.assertEqual(near_names((("u", U),), DOT), ("u",))


class Lines(unittest.TestCase):
    def test_set_line(self):
        self.assertEqual(set_line(BOOK, "li", 2), united(L, shifted(I, 4, 0)))
        self.assertEqual(set_line(BOOK, "oio", 1), united(united(O, shifted(I, 4, 0)), shifted(O, 6, 0)))
        # Each blank is a gap, at the beginning and at the end too.
        self.assertEqual(set_line(BOOK, "  i i ", 3), united(shifted(I, 6, 0), shifted(I, 13, 0)))
        self.assertEqual(set_line(BOOK, "i", 20), I)
        for text in ("", " ", "     "):
            self.assertEqual(set_line(BOOK, text, 2), ())

    def test_set_and_read(self):
        chance = random.Random(3)
        names = "".join(name for name, _ in WIDE)
        for _ in range(60):
            text = "".join(chance.choice(names + "  ") for _ in range(chance.randrange(12)))
            gap = chance.randrange(1, 6)
            page = set_line(WIDE, text, gap)
            told = text.replace(" ", "")
            self.assertEqual(read_page(WIDE, page), [told] if told else [])
            x, page_told = 0, ()
            for sign in text:
                glyph = dict(WIDE).get(sign, ())
                self.assertTrue(not page_told or apart(page_told, shifted(glyph, x, 0)))
                page_told = united(page_told, shifted(glyph, x, 0))
                x += gap + (max(i for i, _ in glyph) + 1 if glyph else 0)
            self.assertEqual(page, page_told)
        self.assertEqual(read_page(WIDE, set_line(WIDE, "bdg nis " * 5, 20)), ["bdgnis" * 5])

    def test_lines_of(self):
        for page in some_pages():
            letters = list(letters_of(page))
            rows = {letter: {y + letter[0][1] for _, y in letter[1]} for letter in letters}
            lines = []
            for letter in letters:
                joined = [line for line in lines if any(rows[letter] & rows[each] for each in line)]
                lines = [line for line in lines if line not in joined]
                lines.append([letter] + [each for line in joined for each in line])
            lines.sort(key=lambda line: -max(max(rows[letter]) for letter in line))
            told = lines_of(page)
            self.assertIsInstance(told, list)
            self.assertEqual(told, [tuple(sorted(line)) for line in lines])
            self.assertEqual(read_page((), page), ["?" * len(line) for line in lines])

    def test_lines_that_meet_by_a_chain(self):
        # The first and the last meet no row together, but both meet one of the second.
        page = put_glyph(put_glyph(put_glyph((), (0, 0), I), (3, 2), I), (6, 4), I)
        self.assertEqual(len(lines_of(page)), 1)
        self.assertEqual(read_page(BOOK, page), ["iii"])
        page = put_glyph(put_glyph((), (0, 0), I), (6, 4), I)
        self.assertEqual(lines_of(page), [(((6, 4), I),), (((0, 0), I),)])
        # Side by side rows are not one row.
        page = put_glyph(put_glyph((), (0, 0), I), (3, 3), L)
        self.assertEqual(read_page(BOOK, page), ["l", "i"])
        page = put_glyph(put_glyph((), (0, 0), I), (3, 2), L)
        self.assertEqual(read_page(BOOK, page), ["il"])
        # A long one that holds short ones together, the farthest one put ahead.
        tall = tuple((0, y) for y in range(20))
        page = put_glyph(put_glyph(put_glyph(tall, (5, 15), DOT), (9, 3), DOT), (3, 25), DOT)
        self.assertEqual([len(line) for line in lines_of(page)], [1, 3])
        self.assertEqual(read_page((("d", DOT),), page), ["d", "?dd"])

    def test_glyphs_within_one_another(self):
        page = put_glyph(GREAT, (2, 2), DOT)
        self.assertEqual(read_page(WIDE, page), ["gd"])
        page = put_glyph(U, (2, 2), DOT)
        self.assertEqual(read_page(WIDE, page), ["ud"])
        page = put_glyph(U, (2, 4), DOT)
        self.assertEqual(read_page(WIDE, page), ["d", "u"])

    def test_read_page(self):
        self.assertEqual((lines_of(()), read_page(BOOK, ())), ([], []))
        # Nothing has a name: turned ones have none either.
        page = put_glyph(put_glyph((), (0, 0), posed(L, 4)), (5, 9), DOT)
        self.assertEqual(read_page(BOOK, page), ["?", "?"])
        self.assertEqual(read_page((), set_line(BOOK, "oil", 1)), ["???"])
        self.assertEqual(read_page(BOOK[:2], set_line(BOOK, "oil", 1)), ["?il"])
        self.assertEqual(read_page(BOOK, shifted(set_line(BOOK, "lo", 4), -77, 10 ** 5)), ["lo"])


class Compared(unittest.TestCase):
    def test_compare_and_patched(self):
        pages = some_pages() + [set_line(WIDE, text, 2) for text in ("big", "bug", "b g", "")]
        for one in pages:
            for other in pages[::2]:
                mine, yours = letters_of(one), letters_of(other)
                both, lost, new = compare(one, other)
                self.assertEqual(both, tuple(letter for letter in mine if letter in yours))
                self.assertEqual(lost, tuple(letter for letter in mine if letter not in yours))
                self.assertEqual(new, tuple(letter for letter in yours if letter not in mine))
                self.assertEqual(patched(one, lost, new), other)
                self.assertEqual(patched(one, lost[::-1], new[::-1]), other)

    def test_edges(self):
        page = set_line(BOOK, "li", 2)
        self.assertEqual(compare((), ()), ((), (), ()))
        self.assertEqual(compare(page, page), (letters_of(page), (), ()))
        self.assertEqual(compare(page, ()), ((), letters_of(page), ()))
        self.assertEqual(compare((), page), ((), (), letters_of(page)))
        self.assertEqual((patched(page, (), ()), patched(page, letters_of(page), ())), (page, ()))
        # A letter that moves is lost and new; what is lost goes ahead of what is new, so that cells of both stay.
        self.assertEqual(compare(I, shifted(I, 1, 0)), ((), (((0, 0), I),), (((1, 0), I),)))
        self.assertEqual(patched(I, (((0, 0), I),), (((0, 0), L),)), L)
        self.assertEqual(compare(L, I), ((), (((0, 0), L),), (((0, 0), I),)))
        # The least letter that is there no more goes without those about it.
        self.assertEqual(patched(put_glyph(GREAT, (2, 2), DOT), (((2, 2), DOT),), ()), GREAT)
        self.assertEqual(patched(picture_of([(0, 0), (5, 5)]), (((5, 5), DOT),), (((9, 0), DOT),)), ((0, 0), (9, 0)))


if __name__ == "__main__":
    unittest.main()
