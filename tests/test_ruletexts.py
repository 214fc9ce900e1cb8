"""boneways/ruletexts.py: point 5.6."""

import random
import re
import unittest

from boneways.rules import codes_of, holds_of, is_condition, judge_condition, judge_rule, parts_in
from boneways.ruletexts import condition_text, read_condition, read_rule, rule_text
from tests.plain import ODD_VALUES, nested
from tests.test_rules import LEAVES, SIZES, some_condition, some_rule
from tests.test_texts import place_told

LEAF = (r"all|none|simple|code (0|[1-9][0-9]?|1[0-9][0-9]|2[0-4][0-9]|25[0-5])|black [0-7]|"
        r"(count|sides|runs) [0-8] [0-8]")
BRACKET = rf"\(({LEAF}|turned [0-7] @|some turn @|not @|(either|both)( @)*)\)"
LEAST_TEXTS = ("all", "none", "simple", "code 0", "black 0", "count 0 0", "sides 0 0", "runs 0 0", "turned 0 (all)",
               "some turn (all)", "not (all)", "either (all)", "both (all)")


def is_condition_form(text):
    """Whether the text falls together, its innermost parts first."""
    left, text = "", "@" if "@" in text else f"({text})"
    while left != text:
        left, text = text, re.sub(BRACKET, "@", text)
    return left == "@"


def is_rule_form(text):
    """Whether the text is that of a rule, by what each line says."""
    first, *lines = text.split("\n")
    head = re.fullmatch(r"rule ([1-3]) ([1-3])", first)
    if not head or not 1 <= len(lines) <= 8:
        return False
    for line in lines:
        if not re.fullmatch(r"pass( :( (0|[1-9][0-9]*))*)*", line):
            return False
        tables = [[int(word) for word in table.split()] for table in line.split(":")[1:]]
        if len(tables) != int(head.group(1)) * int(head.group(2)):
            return False
        if any(table != sorted(set(table)) or max(table, default=0) > 255 for table in tables):
            return False
    return True


def plain_place(text, is_form, endings):
    """The number of signs of the longest beginning that some ending completes."""
    for n in reversed(range(len(text) + 1)):
        if any(is_form(text[:n] + ending) for ending in endings):
            return n
    return None


CONDITION_ENDINGS = sorted({least[n:] + ")" * k for least in LEAST_TEXTS for n in range(len(least) + 1) for k in range(5)})
RULE_ENDINGS = ["rule 1 1\npass"[n:] + " :" * k for n in range(14) for k in range(10)]
RULE_ENDINGS += [digits + " :" * k for digits in ["255", ":"] + [str(n) for n in range(10)] for k in range(10)]
RULE_ENDINGS += [f"{n:02}" + " :" * k for n in range(100) for k in range(10)]


class ConditionTexts(unittest.TestCase):
    def test_each_word(self):
        for condition, text in (
                (("all",), "all"), (("none",), "none"), (("code", 7), "code 7"), (("code", 255), "code 255"),
                (("black", 3), "black 3"), (("count", 2, 6), "count 2 6"), (("sides", 0, 1), "sides 0 1"),
                (("runs", 1, 1), "runs 1 1"), (("simple",), "simple"), (("count", 8, 0), "count 8 0"),
                (("turned", 1, ("all",)), "turned 1 (all)"), (("some turn", ("code", 0)), "some turn (code 0)"),
                (("either", (("all",), ("none",))), "either (all) (none)"), (("both", (("all",),)), "both (all)"),
                (("either", ()), "either"), (("both", ()), "both"), (("not", ("black", 7)), "not (black 7)"),
                (("both", (("either", ()), ("both", (("both", ()),)))), "both (either) (both (both))")):
            self.assertEqual(condition_text(condition), text)
            self.assertEqual(read_condition(text), condition)

    def test_there_and_back(self):
        chance = random.Random(1)
        for condition in LEAVES + [some_condition(chance, 4) for _ in range(150)]:
            text = condition_text(condition)
            self.assertTrue(is_condition_form(text))
            self.assertEqual(read_condition(text), condition)
            self.assertIs(is_condition(read_condition(text)), True)

    def test_conditions_of_any_size(self):
        deep = "not (" * 90 + "all" + ")" * 90
        self.assertEqual(judge_condition(read_condition(deep)), ("size",))
        self.assertEqual((parts_in(read_condition(deep)), condition_text(read_condition(deep))), (91, deep))
        self.assertEqual(codes_of(read_condition(deep)), tuple(range(256)))
        self.assertIs(holds_of(read_condition("not (" + deep + ")"), 9), False)
        wide = "either" + " (all)" * 300
        self.assertEqual(condition_text(read_condition(wide)), wide)
        self.assertEqual(place_told(read_condition, "not (" * 100), 500)
        self.assertEqual(place_told(read_condition, deep + ")"), len(deep))
        self.assertEqual(place_told(read_condition, deep[:-1]), len(deep) - 1)
        self.assertEqual(place_told(read_condition, "some turn (" * 1500 + "x"), 16500)

    def test_cut_short_at_each_place(self):
        for text in ("both (simple) (not (count 0 1)) (either)", "turned 7 (some turn (code 199))", "either (none)"):
            for n in range(len(text)):
                told = plain_place(text[:n], is_condition_form, CONDITION_ENDINGS)
                self.assertEqual(told, n)
                if not is_condition_form(text[:n]):
                    self.assertEqual(place_told(read_condition, text[:n]), n)

    def test_places(self):
        for text, place in (
                ("", 0), (" all", 0), ("All", 0), ("all ", 3), ("alls", 3), ("x", 0), ("so", 2), ("sox", 2), ("sa", 1),
                ("nol", 2), ("codes 1", 4), ("coa", 2), ("bo (all)", 2), ("code", 4), ("code ", 5), ("code x", 5),
                ("code  1", 5), ("code 256", 7), ("code 300", 7), ("code 07", 6), ("code -1", 5), ("code 25x", 7),
                ("code 1 ", 6), ("black 8", 6), ("black 77", 7), ("count 1", 7), ("count 1 9", 8), ("count 9 1", 6),
                ("runs 1  2", 7), ("turned 8 (all)", 7), ("turned 3", 8), ("turned (all)", 7), ("turned 3(all)", 8),
                ("some turn", 9), ("some  turn (all)", 5), ("some turn (all", 14), ("some turn (all))", 15),
                ("not", 3), ("not (", 5), ("not ()", 5), ("not (all) (all)", 9), ("not (all) ", 9), ("not all", 4),
                ("either ", 7), ("either (", 8), ("either ()", 8), ("either (all) ", 13), ("either (all)(all)", 12),
                ("both (all)x", 10), ("both  (all)", 5), ("either(all)", 6), ("not (either) ", 12), ("all\n", 3),
                ("not (both (all) (none", 21), ("not (both (all) (none)", 22), ("not (both (all) x", 16)):
            self.assertEqual(place_told(read_condition, text), place, text)
            self.assertEqual(plain_place(text, is_condition_form, CONDITION_ENDINGS), place, text)

    def test_wrong_signs_anywhere(self):
        chance = random.Random(2)
        for _ in range(250):
            text = condition_text(some_condition(chance, 2))[:60]
            n = chance.randrange(len(text) + 1)
            text = text[:n] + chance.choice(" ()0123589acehnorstu") + text[n + chance.randrange(2):]
            right = is_condition_form(text)
            told = None if right else plain_place(text, is_condition_form, CONDITION_ENDINGS)
            self.assertEqual(place_told(read_condition, text), told, text)

    def test_no_text(self):
        for value in ODD_VALUES + (nested(40), ["all"], ("all",), 10 ** 59, b"all"):
            if not isinstance(value, str):
                self.assertEqual(place_told(read_condition, value), 0)
                self.assertEqual(place_told(read_rule, value), 0)


class RuleTexts(unittest.TestCase):
    def test_rule_text(self):
        self.assertEqual(rule_text((1, 1, (((),),))), "rule 1 1\npass :")
        self.assertEqual(rule_text((2, 1, (((1, 16), ()), ((), (0, 255))))), "rule 2 1\npass : 1 16 :\npass : : 0 255")
        self.assertEqual(read_rule("rule 2 1\npass : 1 16 :\npass : : 0 255"), (2, 1, (((1, 16), ()), ((), (0, 255)))))

    def test_there_and_back(self):
        chance = random.Random(3)
        for a, b in SIZES:
            for many in (1, 2, 8):
                rule = some_rule(chance, a, b, many)
                self.assertTrue(is_rule_form(rule_text(rule)))
                self.assertEqual(read_rule(rule_text(rule)), rule)
                self.assertIsNone(judge_rule(read_rule(rule_text(rule))))

    def test_cut_short_at_each_place(self):
        for text in ("rule 2 1\npass : 1 16 :\npass : : 0 255", "rule 1 3\npass : : 25 200 :", "rule 1 1\npass : 255"):
            for n in range(len(text)):
                self.assertEqual(plain_place(text[:n], is_rule_form, RULE_ENDINGS), n)
                if not is_rule_form(text[:n]):
                    self.assertEqual(place_told(read_rule, text[:n]), n)

    def test_places(self):
        eight = "rule 1 1" + "\npass :" * 8
        for text, place in (
                ("", 0), ("rules", 4), ("Rule", 0), ("rule 0 1\npass :", 5), ("rule 4 1\npass :", 5), ("rule 12", 6),
                ("rule 1", 6), ("rule 1 1", 8), ("rule 1 1 ", 8), ("rule 1 1\n", 9), ("rule 1 1\npass", 13),
                ("rule 1 1\npass ", 14), ("rule 1 1\npass 1", 14), ("rule 1 1\npass :x", 15), ("rule 1 1\npass : x", 16),
                ("rule 1 1\npass : :", 16), ("rule 1 1\npass :\n", 16), ("rule 1 1\npass :  1", 16),
                ("rule 2 1\npass :", 15), ("rule 2 1\npass : 1", 17), ("rule 2 1\npass :\npass : :", 15),
                ("rule 2 1\npass : : :", 18), ("rule 2 1\npass : 255 ", 20), ("rule 2 1\npass : 255 2", 20),
                ("rule 1 1\npass : 255 ", 19), ("rule 1 1\npass : 255 :", 19), ("rule 1 1\npass : 255 2", 19),
                ("rule 1 1\npass : 256", 18), ("rule 1 1\npass : 07", 17), ("rule 1 1\npass : -1", 16),
                ("rule 1 1\npass : 5 5", 19), ("rule 1 1\npass : 5 5 6", 19), ("rule 1 1\npass : 16 1", 20),
                ("rule 1 1\npass : 16 15", 21), ("rule 1 1\npass : 16 1 17", 20), ("rule 1 1\npass : 30 3", 20),
                ("rule 1 1\npass : 30 29", 20), ("rule 1 1\npass : 30 3\npass :", 20), ("rule 1 1\npass : 9 0", 18),
                ("rule 1 1\npass : 199 2", 21), ("rule 1 1\npass : 199 1", 20), ("rule 1 1\npass : 254 25", 22),
                ("rule 1 1\npass : 254 24", 21), ("rule 1 1\npass : 99 99", 19), ("rule 1 1\npass : 99 100x", 22),
                (eight + "\n", 64), (eight + "\npass :", 64), (eight + " 1\npass :", 66), (eight + " ", 65)):
            self.assertEqual(place_told(read_rule, text), place, text)
            self.assertEqual(plain_place(text, is_rule_form, RULE_ENDINGS), place, text)
        self.assertEqual(len(read_rule(eight)[2]), 8)

    def test_each_code_behind_each_other(self):
        for last in range(256):
            head = f"rule 1 1\npass : {last}"
            begun = {str(code)[:n] for code in range(last + 1, 256) for n in (1, 2, 3)}
            for code in range(0, 260):
                good = max([n for n in (1, 2, 3) if str(code)[:n] in begun], default=0)
                good = min(good, len(str(code)))
                # The blank may stand if a code may follow.
                told = len(head) + (1 + good if begun else 0)
                right = last < code < 256
                self.assertEqual(place_told(read_rule, f"{head} {code}"), None if right else told)

    def test_wrong_signs_anywhere(self):
        chance = random.Random(4)
        base = ("rule 2 1\npass : 1 16 :\npass : : 0 255", "rule 1 1\npass : 25 200 201\npass : 9", "rule 1 2\npass : 3 : 3")
        for _ in range(150):
            text = chance.choice(base)
            for _ in range(chance.choice((1, 1, 2))):
                n = chance.randrange(len(text) + 1)
                text = text[:n] + chance.choice("\n :01259p") + text[n + chance.randrange(2):]
            told = None if is_rule_form(text) else plain_place(text, is_rule_form, RULE_ENDINGS)
            self.assertEqual(place_told(read_rule, text), told, text)

    def test_greatest_rules(self):
        full = (3, 3, ((tuple(range(256)),) * 9,) * 8)
        text = rule_text(full)
        self.assertEqual(read_rule(text), full)
        self.assertEqual(place_told(read_rule, text + " "), len(text))
        self.assertEqual(place_told(read_rule, text[:-1]), len(text) - 1 if not is_rule_form(text[:-1]) else None)


if __name__ == "__main__":
    unittest.main()
