"""boneways/tree.py: points 2.2, 2.3 and 2.6."""

import random
import unittest

from boneways.pictures import picture_of, posed, shifted, united
from boneways.pieces import holes, pieces, place_of
from boneways.tree import (
    around, children_of, filled, form_of, inside_out, is_within, judge_match, matched, nodes, outer_part, parent_of)
from tests.plain import ODD_VALUES, drawn, frame_of, nested, pictures_within
from tests.test_pieces import CORNERS, RINGS, some_pictures

OUT = ("outside",)
MIXED = drawn(
    "#########..###",
    "#.......#..#.#",
    "#.###.#.#..###",
    "#.#.#...#.....",
    "#.###.#.#..#..",
    "#.......#.#.#.",
    "#########..#..")
PICTURES = some_pictures(11, 25, 8) + [(), ((3, 3),), RINGS, CORNERS, MIXED]


def places_of(picture):
    return sorted([("piece", lot[0]) for lot in pieces(picture)] + [("hole", lot[0]) for lot in holes(picture)])


def steps_out(picture, cell):
    """The places through which one passes who goes left, side by side, from a cell to the outside."""
    seen = [place_of(picture, cell)]
    while cell[0] >= -2:
        cell = (cell[0] - 1, cell[1])
        seen.append(place_of(picture, cell))
    return seen


class Tree(unittest.TestCase):
    def test_nodes(self):
        for picture in PICTURES:
            told = nodes(picture)
            self.assertEqual([place for place, _ in told], places_of(picture))
            for (word, (x, y)), parent in told:
                self.assertEqual(parent, place_of(picture, (x - 1, y)))
                self.assertEqual(parent_of(picture, (word, (x, y))), parent)
                self.assertIn((word, parent[0]), {("piece", "hole"), ("piece", "outside"), ("hole", "piece")})

    def test_children_of(self):
        for picture in PICTURES:
            for place in [OUT] + places_of(picture):
                told = tuple(child for child, parent in nodes(picture) if parent == place)
                self.assertEqual(children_of(picture, place), told)
                self.assertEqual(list(told), sorted(told))
        self.assertEqual(children_of((), OUT), ())

    def test_around(self):
        for picture in PICTURES:
            parents = dict(nodes(picture))
            for cell in frame_of(picture) if picture else [(0, 0)]:
                told = around(picture, cell)
                self.assertEqual((told[0], told[-1]), (place_of(picture, cell), OUT))
                self.assertEqual([parents[place] for place in told[:-1]], list(told[1:]))
                self.assertTrue(set(told) <= set(steps_out(picture, cell)))
                for place in [OUT] + places_of(picture):
                    self.assertIs(is_within(picture, place, cell), place in told)
        self.assertEqual(len(around(RINGS, (4, 4))), 6)
        self.assertEqual(around((), (5, 5)), (OUT,))

    def test_filled(self):
        for picture in PICTURES:
            whole = filled(picture)
            frame = frame_of(picture) if picture else []
            self.assertEqual(whole, tuple(c for c in frame if any(p[0] == "piece" for p in around(picture, c))))
            self.assertEqual(len(pieces(whole)), len(children_of(picture, OUT)))
            self.assertEqual(holes(whole), ())

    def test_outer_part_and_inside_out(self):
        for picture in PICTURES:
            lots = [lot for lot in pieces(picture) if parent_of(picture, ("piece", lot[0])) == OUT]
            self.assertEqual(outer_part(picture), picture_of([cell for lot in lots for cell in lot]))
            self.assertEqual(inside_out(picture), picture_of([cell for lot in holes(picture) for cell in lot]))
            self.assertLessEqual(len(pieces(inside_out(picture))), len(holes(picture)))
        self.assertEqual(inside_out(CORNERS), ((1, 1), (3, 1)))
        touching = drawn("..#.", ".#.#", "#.#.", ".#..")
        self.assertEqual((len(holes(touching)), pieces(inside_out(touching))), (2, (((1, 1), (2, 2)),)))


class Forms(unittest.TestCase):
    def test_form_of(self):
        self.assertEqual([form_of(()), form_of(((7, 7),))], [(), ((),)])
        self.assertEqual(form_of(RINGS), ((((((),),),),),))
        self.assertEqual(form_of(CORNERS), (((), ()),))
        self.assertEqual(form_of(MIXED), (((),), ((),), (((), (), ((),)),)))

    def test_forms_by_their_words(self):
        def plain(picture, place):
            return tuple(sorted(plain(picture, child) for child in children_of(picture, place)))
        for picture in PICTURES:
            self.assertEqual(form_of(picture), plain(picture, OUT))

    def test_forms_stay_in_turns(self):
        for picture in PICTURES:
            for t in range(8):
                self.assertEqual(form_of(posed(picture, t)), form_of(picture))

    def test_many_rings(self):
        cells = [(x, y) for x in range(45) for y in range(45)]
        diamonds = tuple((x, y) for x, y in cells if (abs(x - 22) + abs(y - 22)) in range(1, 23, 3))
        form = form_of(diamonds)
        self.assertEqual((len(diamonds), len(pieces(diamonds)), len(holes(diamonds))), (368, 8, 8))
        depth = 0
        while form:
            form, depth = form[0], depth + 1
        self.assertEqual(depth, 16)
        self.assertIsNone(judge_match(diamonds, posed(diamonds, 5), matched(diamonds, posed(diamonds, 5))))


def plain_judge_match(one, other, value):
    parents, others = dict(nodes(one)), dict(nodes(other))
    lefts, rights = [OUT] + list(parents), [OUT] + list(others)
    firsts, seconds = [pair[0] for pair in value], [pair[1] for pair in value]
    images = dict(value)
    lists = (
        ("lacks", [place for place in lefts if firsts.count(place) == 0]),
        ("twice", [place for place in lefts if firsts.count(place) > 1]),
        ("twice", [place for place in rights if seconds.count(place) > 1]),
        ("rest", [place for place in rights if seconds.count(place) == 0]),
        ("kind", [place for place in lefts if place in images and images[place][0] != place[0]]))
    for word, places in lists:
        if places:
            return (word, min(places))
    wrong = [place for place in parents if images[parents[place]] != others[images[place]]]
    return ("parent", min(wrong)) if wrong else None


class Matches(unittest.TestCase):
    def test_matched(self):
        pictures = PICTURES[:12] + [(), RINGS, CORNERS, MIXED, posed(MIXED, 6), shifted(posed(MIXED, 3), 70, -5)]
        for one in pictures:
            for other in pictures:
                told = matched(one, other)
                self.assertEqual(told is not None, form_of(one) == form_of(other))
                if told is not None:
                    self.assertIsNone(judge_match(one, other, told))
                    self.assertIsNone(plain_judge_match(one, other, told))
        self.assertEqual(matched((), ()), ((OUT, OUT),))

    def test_each_fault_in_its_sequence(self):
        chance = random.Random(3)
        words = {}
        for one in PICTURES + [RINGS, MIXED, MIXED, CORNERS] * 3:
            other = chance.choice([posed(one, chance.randrange(8)), posed(one, 2), chance.choice(PICTURES)])
            lefts, rights = [OUT] + places_of(one), [OUT] + places_of(other)
            for _ in range(30):
                pairs = list(matched(one, other) or zip(lefts, rights))
                for _ in range(chance.randrange(4)):
                    deed = chance.randrange(3)
                    i, j = chance.randrange(len(pairs)), chance.randrange(len(pairs))
                    if deed == 0:
                        pairs[i], pairs[j] = (pairs[i][0], pairs[j][1]), (pairs[j][0], pairs[i][1])
                    elif deed == 1 and chance.randrange(3) == 0:
                        pairs[i] = (chance.choice(lefts), chance.choice(rights))
                    elif deed == 2 and chance.randrange(3) == 0:
                        pairs.append((chance.choice(lefts), chance.choice(rights)))
                value = tuple(sorted(set(pairs)))
                told = judge_match(one, other, value)
                self.assertEqual(told, plain_judge_match(one, other, value))
                words[told and told[0]] = words.get(told and told[0], 0) + 1
        self.assertEqual(set(words), {None, "lacks", "twice", "rest", "kind", "parent"})

    def test_twice_of_the_other(self):
        two = ((0, 0), (5, 0))
        value = ((OUT, OUT), (("piece", (0, 0)), ("piece", (5, 0))), (("piece", (5, 0)), ("piece", (5, 0))))
        self.assertEqual(judge_match(two, two, value), ("twice", ("piece", (5, 0))))

    def test_form(self):
        dot = ((0, 1),)
        right = ((OUT, OUT), (("piece", (0, 1)), ("piece", (0, 1))))
        self.assertIsNone(judge_match(dot, dot, right))
        place = ("piece", (0, 1))
        wrong = (list(right), right[::-1], right + right[1:], (list(right[0]), right[1]), ((["outside"], OUT), right[1]),
                 (right[0], (("piece", (0, True)), place)), (right[0], (("piece", (False, 1)), place)),
                 (right[0], (place, ("piece", [0, 1]))), (right[0], (place, ("hole", (0, 1)))),
                 (right[0], (place, place, place)), (right[0], (("piece", (9, 9)), place)), (OUT, place),
                 (right[0], ((["piece"], (0, 1)), place)), (right[0], (place, {})), ((OUT, ("outside", 1)), right[1]),
                 (right[0], (("piece",), place)), (right[0], (place + place, place)), (right[0], ((), place)))
        for value in wrong:
            self.assertEqual(judge_match(dot, dot, value), ("form",))

    def test_any_value(self):
        for value in ODD_VALUES + (nested(40),):
            self.assertEqual(judge_match(RINGS, CORNERS, value), ("lacks", ("hole", (1, 1))) if value == () else ("form",))

    def test_great_pictures(self):
        dots = tuple((x, y) for x in range(0, 60, 3) for y in range(0, 60, 3))
        self.assertIsNone(judge_match(dots, dots, matched(dots, dots)))
        rim = tuple((x, y) for x in range(60) for y in range(60) if x in (0, 59) or y in (0, 59))
        both = united(rim, tuple((x, y) for x in range(3, 57, 5) for y in range(3, 57, 5)))
        self.assertEqual(form_of(both), ((((),) * 121,),))


class Small(unittest.TestCase):
    def test_all_small_pictures(self):
        for picture in pictures_within(3, 3):
            many = 1 if holes(picture) else 0
            self.assertEqual(len(nodes(picture)), len(pieces(picture)) + many)


if __name__ == "__main__":
    unittest.main()
