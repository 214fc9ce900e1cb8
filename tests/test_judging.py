"""boneways/judging.py: points 6.1 to 6.6."""

import random
import unittest
from itertools import combinations, product

from boneways.judging import (
    bad_lots, blocked_by, faults_in, is_safe, judge_fault, judge_judgement, judgement, least_fault, safe_within)
from boneways.pictures import picture_of, shifted
from boneways.rules import entries_of, judge_rule, refined, turned_rule
from boneways.simple import code_at, is_simple, is_simple_code, keeps
from tests.plain import ODD_VALUES, nested, parts_of, pictures_within, plain_struck_fault
from tests.test_pieces import some_pictures
from tests.test_rules import CODES, SIZES, plain_strikes, some_rule
from tests.test_runs import rough_rule

LEFT, BOTH, CORNER = (1, 1, (((1,),),)), (1, 1, (((1, 16),),)), (1, 1, (((2, 32),),))


def little_faults():
    """All pictures of the three sorts of point 6.2, word for word, with the cells struck, the named one at 0, 0."""
    found = []
    for code in CODES:
        if not is_simple_code(code):
            near = [cell for n, cell in enumerate(((1, 0), (1, 1), (0, 1), (-1, 1), (-1, 0), (-1, -1), (0, -1), (1, -1)))
                    if code // 2 ** n % 2]
            found.append((((0, 0),), picture_of([(0, 0)] + near)))
    for other in ((1, 0), (0, 1)):
        two = ((0, 0), other)
        about = [cell for cell in product((-1, 0, 1, 2), repeat=2) if cell not in two
                 and any(max(abs(cell[0] - x), abs(cell[1] - y)) == 1 for x, y in two)]
        for black in parts_of(about):
            picture = picture_of(two + black)
            if is_simple(picture, two[0]) and is_simple(picture, two[1]) and not keeps(picture, two):
                found.append((two, picture))
    for piece in parts_of(((0, 0), (0, 1), (1, 0), (1, 1))):
        if len(piece) > 2 or piece in (((0, 0), (1, 1)), ((0, 1), (1, 0))):
            home = shifted(piece, -piece[0][0], -piece[0][1])
            found.append((home, home))
    return found


LITTLE = [(lot, picture, [code_at(picture, cell) for cell in lot]) for lot, picture in little_faults()]


def entries_at(lot, codes, a, b, x, y):
    """The lot of entries of a little fault moved to x, y."""
    numbers = [(i + x) % a * b + (j + y) % b for i, j in lot]
    return tuple(sorted(set(zip(numbers, codes))))


def rule_with(a, b, *lots):
    """The rule whose passes have just these lots of entries."""
    return (a, b, tuple(tuple(tuple(code for k, code in lot if k == number) for number in range(a * b)) for lot in lots))


def plain_safe(rule, pictures):
    """Whether all parts of all that passes strike in these pictures keep."""
    return all(keeps(picture, part) for picture in pictures for p in range(len(rule[2]))
               for part in parts_of(plain_strikes(rule, p, picture)))


class BadLots(unittest.TestCase):
    def test_just_the_three_sorts(self):
        for lot, picture, _ in LITTLE:
            self.assertIsNotNone(plain_struck_fault(picture, lot))
        for a, b in SIZES:
            told = {entries_at(lot, codes, a, b, x, y) for lot, _, codes in LITTLE for x in range(a) for y in range(b)}
            self.assertEqual(bad_lots(a, b), tuple(sorted(told)))

    def test_none_lies_in_another_one(self):
        for a, b in SIZES:
            lots = bad_lots(a, b)
            known = set(lots)
            for lot in lots:
                within = [part for many in range(1, len(lot)) for part in combinations(lot, many)]
                self.assertEqual([part for part in within if part in known], [])

    def test_codes_of_all_three_sorts(self):
        one = bad_lots(1, 1)
        for lot in (((0, 0),), ((0, 255),), ((0, 17),), ((0, 1), (0, 16)), ((0, 4), (0, 64)), ((0, 2), (0, 32)),
                    ((0, 8), (0, 128)), ((0, 5), (0, 24), (0, 192)), ((0, 7), (0, 28), (0, 112), (0, 193))):
            self.assertIn(lot, one)
        self.assertNotIn(((0, 1),), one)
        self.assertIn(((0, 1), (1, 16)), bad_lots(2, 1))
        self.assertIn(((0, 16), (1, 1)), bad_lots(2, 1))
        self.assertNotIn(((0, 1), (0, 16)), bad_lots(2, 1))
        self.assertIn(((0, 2), (4, 32)), bad_lots(3, 3))
        self.assertIn(((0, 128), (5, 8)), bad_lots(3, 3))


class SafeRules(unittest.TestCase):
    def test_each_bad_lot_makes_a_fault(self):
        chance = random.Random(1)
        for a, b in SIZES:
            lots = bad_lots(a, b)
            for lot in [lots[0], lots[-1]] + chance.sample(lots, 10):
                rule = rule_with(a, b, (), lot)
                self.assertIs(is_safe(rule), False)
                self.assertEqual(faults_in(rule), ((1, lot),))
                self.assertIsNone(judge_fault(rule, least_fault(rule)))
                for entry in lot:
                    less = rule_with(a, b, tuple(each for each in lot if each != entry))
                    self.assertIs(is_safe(less), True)
                    self.assertIsNone(least_fault(less))
                    self.assertEqual(faults_in(less), ())

    def test_passes_are_judged_one_by_one(self):
        self.assertIs(is_safe((1, 1, (((1,),), ((16,),)))), True)
        self.assertIs(is_safe((1, 1, (((1,),), ((16,),), ((1, 16),)))), False)
        self.assertIs(is_safe((2, 1, (((1, 16), ()),))), True)
        self.assertIs(is_safe((1, 2, (((1, 16), ()),))), False)

    def test_safe_rules_keep_all_parts_of_all_small_pictures(self):
        chance = random.Random(2)
        for a, b in ((1, 1), (2, 1), (1, 3)):
            safe = safe_within(rough_rule(chance, a, b, 1, 0.6), ())
            self.assertIs(is_safe(safe), True)
            self.assertTrue(plain_safe(safe, [shifted(picture, 1, 1) for picture in pictures_within(3, 3)[::2]]))
            for picture in some_pictures(a + b, 10, 7):
                struck_cells = plain_strikes(safe, 0, picture)
                for _ in range(5):
                    self.assertTrue(keeps(picture, tuple(c for c in struck_cells if chance.random() < 0.7)))

    def test_just_the_safe_ones(self):
        # All rules of one code, and many of two: tried with all pictures of their rounds.
        for code in CODES:
            self.assertIs(is_safe((1, 1, (((code,),),))), ((0, code),) not in bad_lots(1, 1))
        chance = random.Random(3)
        pictures = [picture for _, picture, _ in LITTLE]
        simple = [code for code in CODES if is_simple_code(code)]
        for _ in range(12):
            rule = (1, 1, ((tuple(sorted(chance.sample(simple, 12))),),))
            self.assertIs(is_safe(rule), plain_safe(rule, pictures))

    def test_refined_and_turned_rules_are_as_safe(self):
        chance = random.Random(4)
        for a, b in ((1, 1), (1, 2), (3, 1)):
            for share in (0.02, 0.3):
                rule = rough_rule(chance, a, b, 2, share)
                for one in (rule, safe_within(rule, ())):
                    self.assertIs(is_safe(turned_rule(one, 1)), is_safe(one))
                    self.assertIs(is_safe(refined(one, 2 * a if a == 1 else a, b)), is_safe(one))

    def test_faults_in(self):
        chance = random.Random(5)
        for a, b in SIZES:
            rule = rough_rule(chance, a, b, 2, 0.2)
            told = [(p, lot) for p in (0, 1) for lot in bad_lots(a, b) if set(lot) <= set(entries_of(rule, p))]
            self.assertEqual(faults_in(rule), tuple(sorted(told)))


class Faults(unittest.TestCase):
    def test_least_fault(self):
        chance = random.Random(6)
        for a, b in SIZES:
            lots = bad_lots(a, b)
            pairs = [lot for lot in lots if len(lot) > 1]
            for lot in chance.sample(lots, 5) + chance.sample(pairs, 15):
                rule = rule_with(a, b, (), lot, lots[0])
                told = min((len(picture), shifted(picture, x, y), shifted(cells, x, y))
                           for cells, picture, codes in LITTLE for x in range(a) for y in range(b)
                           if entries_at(cells, codes, a, b, x, y) == lot)
                self.assertEqual(least_fault(rule), (1, told[2], told[1]))

    def test_the_first_of_some_pictures(self):
        many = 0
        for a, b in SIZES:
            found = {}
            for cells, picture, codes in LITTLE:
                for x, y in product(range(a), range(b)):
                    lot = entries_at(cells, codes, a, b, x, y)
                    found.setdefault(lot, []).append((len(picture), shifted(picture, x, y), shifted(cells, x, y)))
            for lot, told in found.items():
                if len(told) > 1:
                    many += 1
                    self.assertEqual(least_fault(rule_with(a, b, lot)), (0, min(told)[2], min(told)[1]))
        self.assertGreater(many, 9)

    def test_least_pass_and_least_lot(self):
        rule = (1, 1, (((1,),), ((1, 4, 16, 64),), ((0, 1, 16),)))
        self.assertEqual(least_fault(rule), (1, ((0, 0), (1, 0)), ((0, 0), (1, 0))))
        self.assertEqual(least_fault((1, 1, (((4, 64, 255),),))), (0, ((0, 0), (0, 1)), ((0, 0), (0, 1))))
        self.assertEqual(least_fault((1, 1, (((0, 1, 16),),))), (0, ((0, 0),), ((0, 0),)))
        self.assertEqual(least_fault((2, 2, (((), (8,), (128,), ()),))), (0, ((1, 0), (2, -1)), ((1, 0), (2, -1))))
        self.assertEqual(least_fault((2, 1, (((16,), (1,)),))), (0, ((1, 0), (2, 0)), ((1, 0), (2, 0))))

    def test_least_faults_are_faults(self):
        chance = random.Random(7)
        for a, b in SIZES:
            rule = some_rule(chance, a, b)
            fault = least_fault(rule)
            if fault is None:
                self.assertEqual(faults_in(rule), ())
            else:
                self.assertIsNone(judge_fault(rule, fault))
                self.assertIsNotNone(plain_struck_fault(fault[2], fault[1]))
                self.assertLessEqual(set(fault[1]), set(plain_strikes(rule, fault[0], fault[2])))

    def test_any_fault_will_do(self):
        bar = tuple((x, 7) for x in range(2))
        self.assertIsNone(judge_fault(BOTH, (0, bar, bar)))
        self.assertIsNone(judge_fault(BOTH, (0, bar, bar + ((9, 9),))))
        self.assertEqual(judge_fault(BOTH, (0, bar[:1], bar)), ("keeps",))
        self.assertEqual(judge_fault(BOTH, (0, (), ())), ("keeps",))
        self.assertEqual(judge_fault(BOTH, (0, (), bar + ((10 ** 59, -10 ** 59),))), ("keeps",))
        self.assertIsNone(judge_fault(BOTH, (0, bar, bar + ((10 ** 59, -10 ** 59),))))

    def test_form(self):
        two = ((0, 0), (1, 0))
        for wrong in ((0, two), (0, two, two, 0), [0, two, two], (1, two, two), (-1, two, two), (False, two, two),
                      (None, two, two), ("0", two, two), (0, list(two), two), (0, two, list(two)), (0, two[::-1], two),
                      (0, two, two[::-1]), (0, two * 2, two), (0, ((0, False), (1, 0)), two), (0, None, two), (0, two, 5)):
            self.assertEqual(judge_fault(BOTH, wrong), ("form",))

    def test_lot(self):
        bar = ((0, 0), (1, 0), (2, 0))
        self.assertEqual(judge_fault(BOTH, (0, bar, bar)), ("lot", (1, 0)))
        self.assertEqual(judge_fault(BOTH, (0, ((-5, 0), (0, 0)), bar)), ("lot", (-5, 0)))
        self.assertEqual(judge_fault(LEFT, (0, bar, bar)), ("lot", (1, 0)))
        self.assertEqual(judge_fault((1, 1, (((1, 16),), ((1,),))), (1, bar[::2], bar)), ("lot", (2, 0)))

    def test_any_value(self):
        for value in ODD_VALUES + (nested(40), (0, nested(39), ()), (nested(39), (), ())):
            self.assertEqual(judge_fault(LEFT, value), ("form",))

    def test_keeps_is_told_as_striking_keeps(self):
        chance = random.Random(8)
        every = (1, 1, ((tuple(CODES),),))
        for picture in some_pictures(9, 40, 5):
            lot = tuple(cell for cell in picture if chance.random() < 0.4)
            told = None if plain_struck_fault(picture, lot) else ("keeps",)
            self.assertEqual(judge_fault(every, (0, lot, picture)), told)


class SafeWithin(unittest.TestCase):
    def test_entry_by_entry(self):
        chance = random.Random(10)
        for a, b in ((1, 1), (2, 1), (2, 3)):
            rule = rough_rule(chance, a, b, 2, 0.06)
            every = [(p, k, code) for p in (0, 1) for k, code in entries_of(rule, p)]
            order = chance.sample(every, len(every) // 2)
            taken = [set(), set()]
            for p, k, code in order + every:
                now = [tuple(sorted(taken[q] | ({(k, code)} if q == p else set()))) for q in (0, 1)]
                if is_safe(rule_with(a, b, *now)):
                    taken[p].add((k, code))
            told = rule_with(a, b, *[tuple(sorted(each)) for each in taken])
            self.assertEqual(safe_within(rule, tuple(order)), told)
            self.assertIsNone(judge_rule(told))

    def test_most_of_it(self):
        chance = random.Random(11)
        for a, b in SIZES:
            rule = rough_rule(chance, a, b, 2, 0.5)
            order = tuple((chance.randrange(3), chance.randrange(9), chance.randrange(256)) for _ in range(200))
            safe = safe_within(rule, order)
            self.assertIs(is_safe(safe), True)
            self.assertEqual(safe[:2], (a, b))
            for p in (0, 1):
                here, there = set(entries_of(rule, p)), set(entries_of(safe, p))
                self.assertLessEqual(there, here)
                for k, code in chance.sample(sorted(here - there), min(8, len(here - there))):
                    lots = [lot for lot in bad_lots(a, b) if set(lot) <= there | {(k, code)}]
                    self.assertEqual(blocked_by(rule, safe, p, k, code), lots[0])

    def test_orders_with_entries_that_are_none(self):
        odd = ((0, 0, 16), (0, 0, 16), (-1, 0, 1), (1, 0, 1), (0, 1, 1), (0, -1, 1), (0, 0, 2), (0, 0, -1), (0, 0, 256),
               (10 ** 9, -10 ** 9, 10 ** 9), (0, 0, 1), (0, 0, 16))
        self.assertEqual(safe_within(BOTH, odd), (1, 1, (((16,),),)))
        self.assertEqual(safe_within(BOTH, ()), LEFT)
        self.assertEqual(safe_within((1, 1, (((),), ((),))), odd), (1, 1, (((),), ((),))))
        self.assertEqual(safe_within((1, 1, (((0, 17, 255),),)), odd), (1, 1, (((),),)))
        # A safe rule stays as it is, whatever the order.
        safe = safe_within((1, 1, ((tuple(CODES),),)), odd)
        self.assertEqual(safe_within(safe, odd[::-1]), safe)
        self.assertEqual(safe_within(safe, ()), safe)

    def test_blocked_by(self):
        self.assertEqual(blocked_by(BOTH, LEFT, 0, 0, 16), ((0, 1), (0, 16)))
        self.assertEqual(blocked_by((1, 1, (((0, 1),),)), LEFT, 0, 0, 0), ((0, 0),))
        self.assertIsNone(blocked_by((1, 1, (((1, 3),),)), LEFT, 0, 0, 3))
        both = (1, 1, (((1, 16),), ((1, 16),)))
        self.assertIsNone(blocked_by(both, (1, 1, (((1,),), ((),))), 1, 0, 16))
        self.assertEqual(blocked_by(both, (1, 1, (((),), ((16,),))), 1, 0, 1), ((0, 1), (0, 16)))


class Judgements(unittest.TestCase):
    def test_right_ones(self):
        chance = random.Random(12)
        for a, b in SIZES:
            rule = rough_rule(chance, a, b, 2, 0.3)
            safe = safe_within(rule, ())
            self.assertEqual(judgement(safe), ("safe", len(bad_lots(a, b))))
            self.assertEqual(judgement(rule), ("fault", least_fault(rule)))
            for each in (rule, safe):
                self.assertIsNone(judge_judgement(each, judgement(each)))
        far = (0, ((7, 7), (8, 7)), ((7, 7), (8, 7)))
        self.assertIsNone(judge_judgement(BOTH, ("fault", far)))

    def test_wrong_ones(self):
        many = len(bad_lots(1, 1))
        self.assertEqual(judge_judgement(LEFT, ("safe", many + 1)), ("checks", many))
        self.assertEqual(judge_judgement(LEFT, ("safe", 0)), ("checks", many))
        self.assertEqual(judge_judgement(BOTH, ("safe", many)), ("bad", 0, ((0, 1), (0, 16))))
        rule = (1, 1, (((1,),), ((0, 1, 4, 16, 64),), ((0,),)))
        self.assertEqual(judge_judgement(rule, ("safe", 0)), ("bad", 1, ((0, 0),)))
        self.assertEqual(judge_judgement(LEFT, ("fault", None)), ("fault", ("form",)))
        self.assertEqual(judge_judgement(LEFT, ("fault", (0, ((1, 0),), ((0, 0), (1, 0))))), ("fault", ("lot", (1, 0))))
        self.assertEqual(judge_judgement(BOTH, ("fault", (0, (), ()))), ("fault", ("keeps",)))

    def test_form(self):
        many = len(bad_lots(1, 1))
        for wrong in (["safe", many], ("safe",), ("safe", many, 0), ("safe", True), ("safe", False), ("safe", -1),
                      ("safe", None), ("safe", (many,)), ("Safe", many), (True, many), (None, None), ("fault",), "safe"):
            self.assertEqual(judge_judgement(LEFT, wrong), ("form",))
        for value in ODD_VALUES + (nested(40), (nested(39), 1)):
            self.assertEqual(judge_judgement(LEFT, value), ("form",))


if __name__ == "__main__":
    unittest.main()
