"""boneways/rules.py: points 5.1 to 5.5."""

import random
import unittest

from boneways.pictures import posed, quarter_turned
from boneways.rules import (
    alike_rules, codes_of, entries_of, holds_of, is_condition, is_rule, judge_condition, judge_rule, made_rule, narrowed,
    parts_in, refined, strikes_code, table_number, turned_rule, without)
from boneways.simple import cells_of_code, code_at, is_simple_code, turned_code
from tests.plain import ODD_VALUES, nested
from tests.test_pieces import some_pictures
from tests.test_simple import led

CODES = range(256)
SIZES = [(a, b) for a in (1, 2, 3) for b in (1, 2, 3)]


def numbers_of(code):
    return [number for number in range(8) if code // 2 ** number % 2]


def plain_holds(condition, code):
    """Point 5.3, word for word."""
    word, told, numbers = condition[0], condition[1:], numbers_of(code)
    runs = [n for n in numbers if (n - 1) % 8 not in numbers]
    return {
        "all": lambda: True,
        "none": lambda: False,
        "code": lambda c: code == c,
        "black": lambda k: k in numbers,
        "count": lambda low, high: low <= len(numbers) <= high,
        "sides": lambda low, high: low <= len([n for n in numbers if n % 2 == 0]) <= high,
        "runs": lambda low, high: low <= len(runs) <= high,
        "simple": lambda: is_simple_code(code),
        "turned": lambda t, e: plain_holds(e, code_at(posed(cells_of_code((0, 0), code), t), (0, 0))),
        "some turn": lambda e: any(plain_holds(("turned", t, e), code) for t in range(4)),
        "either": lambda some: any(plain_holds(e, code) for e in some),
        "both": lambda some: all(plain_holds(e, code) for e in some),
        "not": lambda e: not plain_holds(e, code),
    }[word](*told)


LEAVES = [("all",), ("none",), ("simple",), ("code", 0), ("code", 255), ("code", 41), ("black", 0), ("black", 7)]
LEAVES += [(word, low, high) for word in ("count", "sides", "runs") for low in (0, 1, 3, 8) for high in (0, 2, 4, 8)]


def some_condition(chance, depth):
    if depth == 0 or chance.randrange(4) == 0:
        return chance.choice(LEAVES)
    word = chance.choice(("turned", "some turn", "either", "both", "not"))
    if word == "turned":
        return (word, chance.randrange(8), some_condition(chance, depth - 1))
    if word in ("either", "both"):
        return (word, tuple(some_condition(chance, depth - 1) for _ in range(chance.randrange(4))))
    return (word, some_condition(chance, depth - 1))


def some_rule(chance, a, b, many=2):
    def table():
        return tuple(sorted(chance.sample(CODES, chance.choice((0, 1, 9, 40)))))
    return (a, b, tuple(tuple(table() for _ in range(a * b)) for _ in range(many)))


def plain_strikes(rule, p, picture):
    return tuple(cell for cell in picture if strikes_code(rule, p, cell, code_at(picture, cell)))


class Rules(unittest.TestCase):
    def test_what_is_right(self):
        chance = random.Random(1)
        for a, b in SIZES:
            for many in (1, 8):
                self.assertIsNone(judge_rule(some_rule(chance, a, b, many)))
        self.assertIsNone(judge_rule((1, 1, ((tuple(CODES),),))))
        self.assertIs(is_rule((1, 1, (((),),))), True)

    def test_form(self):
        one = (((),),)
        for value in ((1, 1), (1, 1, one, 1), [1, 1, one], (1, 1, list(one)), (0, 1, one), (1, 4, ((((),) * 4),)),
                      (True, 1, one), (1, True, one), (1, 1, ()), (1, 1, one * 9), (1, "1", one), (1, None, one),
                      (4, 1, one), (1, -1, one), (10 ** 59, 1, one), (1, 1, 7), (1, 1, {0: ((),)})):
            self.assertEqual(judge_rule(value), ("form",))
            self.assertIs(is_rule(value), False)

    def test_pass(self):
        good, bad = ((1,), (2,)), ((True,), (2,))
        for wrong in ((), ((1,),), ((1,), (2,), (3,)), [(1,), (2,)], ((1,), [2]), (1, 2), None, ((1,), None), "ab"):
            self.assertEqual(judge_rule((2, 1, (good, wrong, ()))), ("pass", 1))
            self.assertEqual(judge_rule((1, 2, (bad, wrong))), ("pass", 1))
            self.assertIs(is_rule((1, 2, (good, wrong))), False)

    def test_table(self):
        good = ((1, 2), (0, 255))
        for wrong in ((256,), (-1,), (2, 1), (1, 1), (True,), (0, True), ("1",), (None,), ((1,),), (1, 10 ** 59), ([],)):
            self.assertEqual(judge_rule((2, 1, (good, (wrong, wrong)))), ("table", 1, 0))
            self.assertEqual(judge_rule((1, 2, (((), wrong), (wrong, ())))), ("table", 0, 1))
            self.assertIs(is_rule((1, 1, ((wrong,),))), False)

    def test_any_value(self):
        for value in ODD_VALUES + (nested(40), (1, 1, nested(38)), (1, 1, nested(3)), (1, 1, ({}, []))):
            fault = judge_rule(value)
            self.assertIs(is_rule(value), fault is None)
            if not (isinstance(value, tuple) and value[:2] == (1, 1)):
                self.assertEqual(fault, ("form",))
        self.assertEqual(judge_rule((1, 1, nested(38))), ("table", 0, 0))
        self.assertIsNone(judge_rule((1, 1, nested(2))))

    def test_tables_of_cells(self):
        for a, b in SIZES:
            rule = some_rule(random.Random(a * b), a, b)
            for x in (-7, -1, 0, 1, 2, 3, 999999):
                for y in (-999999, -2, 0, 1, 5):
                    k = (x % a) * b + y % b
                    self.assertEqual(table_number(rule, (x, y)), k)
                    for code in (0, 5, 97, 255):
                        self.assertIs(strikes_code(rule, 1, (x, y), code), code in rule[2][1][k])
            for p in (0, 1):
                told = tuple((k, code) for k in range(a * b) for code in CODES if code in rule[2][p][k])
                self.assertEqual(entries_of(rule, p), told)
        self.assertEqual(entries_of((2, 1, (((), ()),)), 0), ())


class Conditions(unittest.TestCase):
    def test_all_leaves_of_all_codes(self):
        for leaf in LEAVES:
            told = tuple(code for code in CODES if plain_holds(leaf, code))
            self.assertEqual(codes_of(leaf), told)
            for code in (0, 1, 41, 85, 170, 254, 255):
                self.assertIs(holds_of(leaf, code), code in told)
        self.assertIs(holds_of(("runs", 0, 0), 255), True)
        self.assertIs(holds_of(("runs", 1, 1), 129), True)
        self.assertIs(holds_of(("runs", 4, 4), 85), True)
        self.assertEqual(codes_of(("count", 5, 4)), ())
        self.assertEqual(codes_of(("sides", 5, 8)), ())

    def test_conditions_of_conditions(self):
        chance = random.Random(2)
        for _ in range(60):
            condition = some_condition(chance, 3)
            self.assertIs(is_condition(condition), True)
            codes = codes_of(condition)
            for code in chance.sample(CODES, 12):
                self.assertIs(holds_of(condition, code), plain_holds(condition, code))
                self.assertEqual(code in codes, plain_holds(condition, code))

    def test_codes_of_parts(self):
        chance = random.Random(3)
        for _ in range(20):
            e, f = some_condition(chance, 3), some_condition(chance, 3)
            of_e, of_f = set(codes_of(e)), set(codes_of(f))
            self.assertEqual(set(codes_of(("not", e))), set(CODES) - of_e)
            self.assertEqual(set(codes_of(("either", (e, f)))), of_e | of_f)
            self.assertEqual(set(codes_of(("both", (e, f)))), of_e & of_f)
            for t in range(8):
                self.assertEqual(set(codes_of(("turned", t, e))), {c for c in CODES if turned_code(c, t) in of_e})
            some = {c for c in CODES if any(turned_code(c, t) in of_e for t in range(4))}
            self.assertEqual(set(codes_of(("some turn", e))), some)
            self.assertEqual(codes_of(e), tuple(sorted(of_e)))
        self.assertEqual(codes_of(("some turn", ("code", 11))), (11, 44, 176, 194))
        self.assertEqual(codes_of(("either", ())), ())
        self.assertEqual(codes_of(("both", ())), tuple(CODES))

    def test_form(self):
        wrong = (("all", 1), ("All",), ("code",), ("code", 256), ("code", -1), ("code", True), ("code", "1"), ["all"],
                 ("black", 8), ("black", False), ("count", 0, 9), ("count", 1), ("count", True, 3), ("sides", -1, 4),
                 ("count", 9, 0), ("sides", 9, 0), ("sides", 0, 9), ("runs", 9, 0), ("runs", 0, 9), ("runs", 0, 1, 2), ("simple", ()), ("turned", 8, ("all",)), ("turned", 1), ("turned", True, ("all",)),
                 ("turned", ("all",), 1), ("turned", 1, ["all"]), ("some turn",), ("some turn", ()), ("not",), ("not", 5),
                 ("not", ("all",), ("all",)), ("either",), ("either", [("all",)]), ("either", ("all",)),
                 ("both", (("all",), None)), ("both", ("code", 1)), ("both", ((),)), ("both", (), ()), (("all",),),
                 "all", ("turned", 1, ("black", True)), ("not", ("either", (("code", 1), ("code", True)))))
        for value in wrong + ODD_VALUES + (nested(40), nested(39, ("all",))):
            self.assertEqual(judge_condition(value), ("form",))
            self.assertIs(is_condition(value), False)

    def test_limits_of_size(self):
        def chain(word, depth):
            value = ("all",)
            for _ in range(depth - 1):
                value = (word, value) if word in ("not", "some turn") else (word, (value,))
            return value
        for word in ("not", "some turn", "both", "either"):
            self.assertIsNone(judge_condition(chain(word, 30)))
            self.assertEqual(parts_in(chain(word, 30)), 30)
            self.assertEqual(judge_condition(chain(word, 31)), ("size",))
            self.assertIs(is_condition(chain(word, 31)), False)
        self.assertEqual(judge_condition(chain("not", 90)), ("size",))
        self.assertEqual(judge_condition(("both", (("all",),) * 200)), ("size",))
        self.assertIsNone(judge_condition(("both", (("all",),) * 199)))
        self.assertEqual(parts_in(("both", (("all",),) * 199)), 200)
        self.assertEqual(judge_condition(("both", (("all",),) * 200 + (("code", True),))), ("form",))
        self.assertEqual(judge_condition(("not", chain("not", 30)[:1] + (("not", None),))), ("form",))
        wide = ("either", (chain("not", 28), ("both", (("simple",),) * 169)))
        self.assertEqual((parts_in(wide), judge_condition(wide)), (199, None))
        self.assertEqual(judge_condition(("turned", 7, ("turned", 0, wide))), ("size",))

    def test_greatest_conditions_are_answered(self):
        value = ("simple",)
        for _ in range(29):
            value = ("some turn", value)
        self.assertEqual(codes_of(value), codes_of(("simple",)))
        self.assertIs(holds_of(value, 1), True)
        many = ("both", (("some turn", ("runs", 0, 3)),) * 99)
        self.assertEqual(codes_of(many), codes_of(("runs", 0, 3)))
        self.assertIs(holds_of(many, 85), False)

    def test_parts_in(self):
        self.assertEqual(parts_in(("all",)), 1)
        self.assertEqual(parts_in(("turned", 3, ("either", (("not", ("none",)), ("both", ()))))), 5)


class MadeRules(unittest.TestCase):
    def test_made_rule(self):
        conditions = ((("simple",), ("code", 7)), (("none",), ("turned", 1, ("code", 4))))
        rule = made_rule(1, 2, conditions)
        self.assertEqual(rule, (1, 2, ((codes_of(("simple",)), (7,)), ((), (1,)))))
        self.assertIsNone(judge_rule(rule))

    def test_narrowed(self):
        rule = some_rule(random.Random(4), 2, 3)
        for condition in (("all",), ("none",), ("simple",), ("not", ("black", 3))):
            left = narrowed(rule, condition)
            self.assertIsNone(judge_rule(left))
            for p in (0, 1):
                kept = tuple((k, c) for k, c in entries_of(rule, p) if plain_holds(condition, c))
                self.assertEqual(entries_of(left, p), kept)

    def test_without(self):
        rule = (2, 1, (((1, 4), (4,)), ((4,), (4, 5))))
        self.assertEqual(without(rule, 1, 1, 4), (2, 1, (((1, 4), (4,)), ((4,), (5,)))))
        self.assertEqual(without(rule, 0, 1, 4), (2, 1, (((1, 4), ()), ((4,), (4, 5)))))
        self.assertEqual(without(rule, 0, 1, 1), rule)
        rule = (1, 3, (((1,), (2,), (3,)),) * 3)
        self.assertEqual(without(rule, 0, 0, 1), (1, 3, (((), (2,), (3,)),) + rule[2][:2]))
        self.assertEqual(without(rule, 1, 1, 2), (1, 3, (rule[2][0], ((1,), (), (3,)), rule[2][0])))
        self.assertEqual(without(rule, 2, 2, 3), (1, 3, rule[2][:2] + (((1,), (2,), ()),)))

    def test_refined(self):
        chance = random.Random(5)
        for a, b in SIZES:
            rule = some_rule(chance, a, b)
            for i, j in SIZES:
                if i % a == 0 and j % b == 0:
                    finer = refined(rule, i, j)
                    self.assertIsNone(judge_rule(finer))
                    self.assertEqual(finer[:2], (i, j))
                    self.assertTrue(alike_rules(rule, finer))
                    for picture in some_pictures(a + b, 2, 7):
                        for p in (0, 1):
                            self.assertEqual(plain_strikes(finer, p, picture), plain_strikes(rule, p, picture))

    def test_alike_rules(self):
        self.assertIs(alike_rules((2, 1, (((1,), (1,)),)), (3, 1, (((1,), (1,), (1,)),))), True)
        self.assertIs(alike_rules((2, 1, (((1,), (2,)),)), (3, 1, (((1,), (2,), (1,)),))), False)
        self.assertIs(alike_rules((1, 1, (((1,),),)), (1, 1, (((1,),), ((),)))), False)
        self.assertIs(alike_rules((1, 1, (((1,),), ((2,),))), (1, 1, (((2,),), ((1,),)))), False)
        self.assertIs(alike_rules((1, 2, (((), (9,)),)), (2, 1, (((), (9,)),))), False)
        for a, b in SIZES:
            even = (a, b, ((((3, 8),) * (a * b)),))
            self.assertIs(alike_rules(even, (1, 1, (((3, 8),),))), True)
            self.assertIs(alike_rules(even, (1, 1, (((3,),),))), False)

    def test_turned_rule(self):
        chance = random.Random(6)
        for a, b in SIZES:
            rule = some_rule(chance, a, b)
            for k in range(4):
                turned = turned_rule(rule, k)
                self.assertIsNone(judge_rule(turned))
                self.assertEqual(turned[:2], (b, a) if k % 2 else (a, b))
                for picture in some_pictures(a * b + k, 3, 8):
                    for p in (0, 1):
                        cells = tuple(sorted(led(cell, k) for cell in plain_strikes(rule, p, picture)))
                        self.assertEqual(plain_strikes(turned, p, quarter_turned(picture, k)), cells)
            self.assertEqual(turned_rule(rule, 0), rule)
            self.assertEqual(turned_rule(turned_rule(rule, 3), 1), rule)


if __name__ == "__main__":
    unittest.main()
