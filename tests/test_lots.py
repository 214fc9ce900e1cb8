"""boneways/lots.py: points 4.1 to 4.6."""

import random
import unittest
from itertools import combinations, permutations

from boneways.lots import (
    all_simple_free, first_clash, free_fault, free_within, hands_left, is_free, judge_bad, judge_most, judge_order,
    least_bads, order_of, safe_hands, sort_of)
from boneways.pictures import picture_of, shifted, taken_out
from boneways.pieces import pieces
from boneways.simple import is_simple, keeps, simple_cells, struck
from tests.plain import ODD_VALUES, drawn, is_beside, is_near, nested, parts_of, pictures_within
from tests.test_pieces import CORNERS, RINGS, some_pictures

BAR = ((0, 0), (1, 0), (2, 0))
SQUARE = ((0, 0), (0, 1), (1, 0), (1, 1))


def within(part, lot):
    return set(part) <= set(lot)


def plain_least_bads(picture, lot):
    """The least bad parts by what point 4.1 says of them alone: all parts are struck."""
    least = []
    for part in parts_of(lot):
        if not any(within(bad, part) for bad in least) and not keeps(picture, part):
            least.append(part)
    return tuple(least)


def plain_sort(picture, part):
    """The three sorts of point 4.2, word for word."""
    def is_pair(one, other):
        simple = is_simple(picture, one) and is_simple(picture, other)
        return is_beside(one, other) and simple and not keeps(picture, (one, other))
    if len(part) == 1 and not is_simple(picture, part[0]):
        return "cell"
    if len(part) == 2 and is_pair(*part):
        return "pair"
    little = len(part) in (2, 3, 4) and all(is_near(one, other) for one, other in combinations(part, 2))
    if little and part in pieces(picture) and not any(is_pair(one, other) for one, other in combinations(part, 2)):
        return "piece"
    return None


def some_lots(seed, many, most):
    """Pairs of a picture and a lot of it of at most so many cells, in one corner of it."""
    chance = random.Random(seed)
    pairs = []
    for picture in some_pictures(seed, many, 6):
        cells = [cell for cell in picture if cell[0] < 4 and cell[1] < 3]
        pairs.append((picture, tuple(sorted(chance.sample(cells, min(most, len(cells)))))))
    return pairs


class LeastBads(unittest.TestCase):
    def test_all_small_pictures(self):
        for picture in pictures_within(3, 3):
            told = least_bads(picture, picture)
            self.assertEqual(told, plain_least_bads(picture, picture))
            for lot in parts_of(picture):
                bads = tuple(part for part in told if within(part, lot))
                self.assertEqual(least_bads(picture, lot), bads)
                self.assertIs(is_free(picture, lot), bads == ())
                fault = (plain_sort(picture, bads[0]), bads[0]) if bads else None
                self.assertEqual(free_fault(picture, lot), fault)

    def test_lots_of_greater_pictures(self):
        for picture, lot in some_lots(1, 25, 8):
            bads = plain_least_bads(picture, lot)
            self.assertEqual(least_bads(picture, lot), bads)
            self.assertEqual(free_fault(picture, lot), (plain_sort(picture, bads[0]), bads[0]) if bads else None)

    def test_sort_of(self):
        for picture in pictures_within(3, 3)[::2]:
            for part in parts_of(picture):
                self.assertEqual(sort_of(picture, part), plain_sort(picture, part))
        self.assertIsNone(sort_of(BAR, ()))
        self.assertEqual(sort_of(((5, 5),), ((5, 5),)), "cell")

    def test_pieces_of_two_to_four_cells(self):
        told = {drawn("##"): "pair", drawn("#", "#"): "pair", drawn("#.", ".#"): "piece", drawn(".#", "#."): "piece"}
        told.update({part: "piece" for part in combinations(SQUARE, 3)})
        told[SQUARE] = "piece"
        for piece, word in told.items():
            for picture in (piece, shifted(piece, -999999, 4), piece + ((9, 9),)):
                lot = picture[:len(piece)]
                self.assertEqual(sort_of(picture, lot), word)
                self.assertEqual(free_fault(picture, lot), (word, lot))
                self.assertTrue(all(is_free(picture, part) for part in parts_of(lot) if part != lot))
        self.assertIsNone(sort_of(drawn("##", "#.", "..", "#."), ((0, 0), (0, 2), (0, 3))))
        self.assertIsNone(sort_of(drawn(".#", "#.", "#."), ((0, 1), (1, 2))))

    def test_pairs_and_pieces_of_two_ascend_together(self):
        # Two bars of two cells, and between them, by the least cells, a lean piece of two.
        picture = ((0, 0), (0, 1), (4, 0), (5, 1), (8, 0), (9, 0))
        self.assertEqual(least_bads(picture, picture), (picture[:2], picture[2:4], picture[4:]))
        self.assertEqual(free_fault(picture, picture[2:]), ("piece", picture[2:4]))
        self.assertEqual(free_fault(picture, picture[:2] + picture[4:]), ("pair", picture[:2]))

    def test_the_empty_ones(self):
        self.assertEqual((is_free((), ()), least_bads(BAR, ()), free_fault(BAR, ())), (True, (), None))

    def test_judge_bad(self):
        pictures = pictures_within(3, 3)[::17]
        for picture, lot in [(picture, picture) for picture in pictures] + some_lots(2, 6, 6):
            bads = plain_least_bads(picture, lot)
            for part in parts_of(lot):
                first = [bad for bad in bads if within(bad, part)]
                told = ("keeps",) if keeps(picture, part) else None if first[0] == part else ("less", first[0])
                self.assertEqual(judge_bad(picture, lot, part), told)

    def test_judge_bad_of_any_value(self):
        for value in ODD_VALUES + (nested(40), list(BAR), BAR[::-1], ((True, 0),), ([1, 0],), ((0, 5),)):
            told = ("keeps",) if value == () and isinstance(value, tuple) else ("form",)
            self.assertEqual(judge_bad(BAR, BAR, value), told)
        self.assertEqual(judge_bad(BAR, BAR[:1], BAR[1:2]), ("form",))


def plain_orders(picture, lot):
    """All orders of a lot."""
    def goes(order):
        return all(is_simple(taken_out(picture, order[:k]), cell) for k, cell in enumerate(order))
    return [order for order in permutations(lot) if goes(order)]


class Orders(unittest.TestCase):
    def test_order_of(self):
        for picture in pictures_within(3, 3):
            for lot in parts_of(picture):
                order = order_of(picture, lot)
                self.assertEqual(order is not None, keeps(picture, lot))
                if order is not None:
                    self.assertIsNone(judge_order(picture, lot, order))

    def test_the_least_goes_each_time(self):
        self.assertEqual(order_of(BAR, BAR[:2]), ((0, 0), (1, 0)))
        self.assertEqual(order_of(BAR, BAR[1:]), ((2, 0), (1, 0)))
        self.assertIsNone(order_of(BAR, BAR))
        self.assertEqual(order_of(BAR, ()), ())
        for picture, lot in some_lots(3, 30, 5):
            order, left = [], list(lot)
            while left:
                simple = [cell for cell in left if is_simple(taken_out(picture, order), cell)]
                if not simple:
                    break
                order.append(min(simple))
                left.remove(min(simple))
            self.assertEqual(order_of(picture, lot), None if left else tuple(order))

    def test_judge_order(self):
        for picture, lot in some_lots(4, 12, 4) + [(SQUARE, SQUARE), (SQUARE, SQUARE[:3])]:
            orders = plain_orders(picture, lot)
            self.assertEqual(len(orders) > 0, keeps(picture, lot))
            self.assertIs(is_free(picture, lot), orders == list(permutations(lot)))
            for value in permutations(lot):
                fault = judge_order(picture, lot, value)
                self.assertEqual(fault is None, value in orders)
                if fault is not None:
                    k = fault[1]
                    self.assertEqual(fault, ("cell", k))
                    self.assertIsNone(judge_order(picture, tuple(sorted(value[:k])), value[:k]))
                    self.assertFalse(is_simple(taken_out(picture, value[:k]), value[k]))

    def test_judge_order_of_any_value(self):
        lot = BAR[:2]
        wrong = (list(lot), lot[:1], lot + lot[:1], (lot[0], lot[0]), ((0, 0), (True, 0)), ((0, 0), [1, 0]), BAR,
                 ((0, 0), (5, 5)), ((0, 0), None), ((False, 0), (1, 0)), (lot,), (10 ** 59, lot), (None, None))
        for value in ODD_VALUES + (nested(40),) + wrong:
            self.assertEqual(judge_order(BAR, lot, value), ("form",))
        self.assertEqual(judge_order(BAR, lot, lot[::-1]), ("cell", 0))
        self.assertIsNone(judge_order(BAR, (), ()))


class Most(unittest.TestCase):
    def test_free_within(self):
        chance = random.Random(5)
        pictures = pictures_within(3, 3)[::5] + some_pictures(5, 8, 5)
        for picture in pictures:
            lot = tuple(sorted(chance.sample(picture, len(picture) * 3 // 4)))
            for _ in range(3):
                order = tuple(chance.sample(lot, len(lot)))
                taken = ()
                for cell in order:
                    more = picture_of(taken + (cell,))
                    taken = more if is_free(picture, more) else taken
                self.assertEqual(free_within(picture, lot, order), taken)
                self.assertIsNone(judge_most(picture, lot, taken))

    def test_judge_most(self):
        for picture in pictures_within(3, 3)[::23] + [SQUARE, BAR, ()]:
            for part in parts_of(picture):
                fault = free_fault(picture, part)
                others = [cell for cell in picture if cell not in part]
                more = [cell for cell in others if is_free(picture, picture_of(part + (cell,)))]
                told = ("free", *fault) if fault else ("more", more[0]) if more else None
                self.assertEqual(judge_most(picture, picture, part), told)

    def test_judge_most_of_any_value(self):
        for value in ODD_VALUES + (nested(40), list(BAR), BAR[::-1], ((True, 0),), ([1, 0],), ((0, 5),)):
            told = ("more", (0, 0)) if value == () and isinstance(value, tuple) else ("form",)
            self.assertEqual(judge_most(BAR, BAR, value), told)
        self.assertEqual(judge_most(BAR, BAR[:1], ((2, 0),)), ("form",))
        self.assertIsNone(judge_most(BAR, BAR[:1], BAR[:1]))

    def test_all_simple_free(self):
        for picture in some_pictures(6, 15, 9) + [(), RINGS, CORNERS, SQUARE]:
            lot = simple_cells(picture)
            self.assertEqual(all_simple_free(picture), free_within(picture, lot, lot))
            self.assertIsNone(judge_most(picture, lot, all_simple_free(picture)))


class Hands(unittest.TestCase):
    def test_hands_left(self):
        hands = [SQUARE[:2], (), SQUARE[1:3]]
        self.assertEqual(hands_left(SQUARE, hands), SQUARE[3:])
        self.assertEqual(hands_left(SQUARE, tuple(hands)), SQUARE[3:])
        self.assertEqual(hands, [SQUARE[:2], (), SQUARE[1:3]])
        self.assertEqual(hands_left(SQUARE, []), SQUARE)

    def test_safe_hands(self):
        chance = random.Random(8)
        for picture in some_pictures(7, 20, 7):
            free = all_simple_free(picture)
            hands = [tuple(sorted(chance.sample(free, len(free) // 2))) for _ in range(4)]
            self.assertIs(safe_hands(picture, hands), True)
            for some in parts_of(hands):
                left = hands_left(picture, some)
                self.assertEqual(left, struck(picture, picture_of([cell for hand in some for cell in hand])))
                self.assertTrue(keeps(picture, picture_of([cell for hand in some for cell in hand])))
        self.assertIs(safe_hands(BAR, [((0, 0),), ((1, 0),)]), False)
        self.assertIs(safe_hands(BAR, []), True)

    def test_first_clash(self):
        dots = ((0, 0), (0, 1), (5, 0), (6, 1))
        hands = [((0, 0),), ((5, 0),), ((6, 1),), ((0, 1),)]
        self.assertEqual(first_clash(dots, hands), (0, 3))
        self.assertEqual(first_clash(dots, tuple(hands[1:])), (0, 1))
        self.assertIsNone(first_clash(dots, hands[:2]))
        self.assertIsNone(first_clash(dots, []))

    def test_three_may_clash_though_no_two_do(self):
        hook = SQUARE[:3]
        hands = [(cell,) for cell in hook]
        self.assertIsNone(first_clash(hook, hands))
        self.assertIs(safe_hands(hook, hands), False)


if __name__ == "__main__":
    unittest.main()
