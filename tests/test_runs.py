"""boneways/runs.py: points 7.1 to 7.6."""

import random
import unittest

from boneways.judging import is_safe, least_fault, safe_within
from boneways.pictures import picture_of, shifted, taken_out
from boneways.pieces import holes, pieces
from boneways.rules import made_rule
from boneways.runs import (
    bones, end_cells, ends, is_bare, judge_ends, judge_run, keeps_ends, kept_till, lost_end, pass_behind, round_behind,
    rounds_of, run_behind, run_to, spared, strikes)
from boneways.simple import cells_of_code, keeps
from boneways.tree import form_of
from tests.plain import ODD_VALUES, drawn, nested, parts_of, pictures_within
from tests.test_pieces import CORNERS, RINGS, some_pictures
from tests.test_rules import CODES, SIZES, plain_strikes

LEFT, BOTH = (1, 1, (((1,),),)), (1, 1, (((1, 16),),))
BAR, PAIR = ((0, 0), (1, 0), (2, 0)), ((0, 0), (1, 0))
SIDES_IN_TURN = made_rule(1, 1, tuple((("both", (("simple",), ("black", n), ("not", ("black", (n + 4) % 8)))),)
                                      for n in (0, 2, 4, 6)))


def rough_rule(chance, a, b, many, share):
    """A rule that strikes about this share of all codes."""
    def table():
        return tuple(code for code in CODES if chance.random() < share)
    return (a, b, tuple(tuple(table() for _ in range(a * b)) for _ in range(many)))


def plain_steps(rule, picture):
    """The set of what one deed with a part other than () leaves of a picture."""
    lots = [plain_strikes(rule, p, picture) for p in range(len(rule[2]))]
    return {taken_out(picture, part) for lot in lots for part in parts_of(lot) if part}


def plain_reached(rule, picture):
    """The dict of the fewest deeds to each picture to which some run leads."""
    found = {picture: 0}
    waiting = [picture]
    for each in waiting:
        for left in plain_steps(rule, each):
            if left not in found:
                found[left] = found[each] + 1
                waiting.append(left)
    return found


def some_run(chance, rule, picture, many):
    run = []
    for _ in range(many):
        p = chance.randrange(len(rule[2]))
        part = tuple(cell for cell in plain_strikes(rule, p, picture) if chance.random() < 0.5)
        run.append((p, part))
        picture = taken_out(picture, part)
    return tuple(run)


class Passes(unittest.TestCase):
    def test_what_passes_strike(self):
        chance = random.Random(1)
        for a, b in SIZES:
            rule = rough_rule(chance, a, b, 3, 0.4)
            for picture in some_pictures(a * 9 + b, 4, 7) + [(), ((5, -3),), shifted(RINGS, -4, -7), CORNERS]:
                left = picture
                for p in range(3):
                    told = plain_strikes(rule, p, picture)
                    self.assertEqual(strikes(rule, p, picture), told)
                    self.assertEqual(pass_behind(rule, p, picture), taken_out(picture, told))
                    left = pass_behind(rule, p, left)
                self.assertEqual(round_behind(rule, picture), left)
                self.assertIs(is_bare(rule, picture), all(not strikes(rule, p, picture) for p in range(3)))

    def test_all_are_looked_at_as_the_picture_stands(self):
        self.assertEqual(strikes(BOTH, 0, BAR), ((0, 0), (2, 0)))
        self.assertEqual(pass_behind(BOTH, 0, PAIR), ())
        self.assertEqual(round_behind((1, 1, (((1,),), ((16,),))), BAR), ((1, 0),))
        self.assertEqual(round_behind((1, 1, (((1,),), ((1,),))), BAR), ((2, 0),))

    def test_rounds_and_bones(self):
        chance = random.Random(2)
        for a, b in SIZES:
            for share in (0.1, 0.5, 1):
                rule = rough_rule(chance, a, b, 2, share)
                for picture in some_pictures(a + 5 * b, 2, 6) + [CORNERS, ()]:
                    rounds = rounds_of(rule, picture)
                    self.assertLessEqual(len(rounds), len(picture))
                    last = picture
                    for each in rounds:
                        self.assertEqual(each, round_behind(rule, last))
                        self.assertNotEqual(each, last)
                        last = each
                    self.assertEqual(bones(rule, picture), last)
                    self.assertIs(is_bare(rule, last), True)
        self.assertEqual((rounds_of(LEFT, ()), bones(LEFT, ())), ((), ()))
        self.assertEqual((rounds_of(BOTH, PAIR), bones(BOTH, PAIR)), (((),), ()))
        # A round that strikes in its last pass alone is one, too.
        self.assertEqual(len(rounds_of((1, 1, (((),), ((),), ((1,),))), BAR)), 2)

    def test_bones_of_greater_pictures(self):
        self.assertIs(is_safe(SIDES_IN_TURN), True)
        for picture in (RINGS, CORNERS, drawn("######", "######", "##..##", "######")):
            left = bones(SIDES_IN_TURN, picture)
            self.assertEqual(form_of(left), form_of(picture))
        self.assertEqual(len(bones(SIDES_IN_TURN, drawn("####", "####", "####"))), 1)


class Runs(unittest.TestCase):
    def test_runs_by_any_hands(self):
        chance = random.Random(3)
        for a, b in SIZES:
            rule = rough_rule(chance, a, b, 3, 0.5)
            for picture in some_pictures(a + b, 3, 5):
                run = some_run(chance, rule, picture, 6) + ((0, ()), (2, ()))
                self.assertIsNone(judge_run(rule, picture, run))
                self.assertEqual(run_behind(picture, run), taken_out(picture, [c for _, part in run for c in part]))
                self.assertLessEqual(len([part for _, part in run if part]), len(picture))

    def test_empty_runs(self):
        self.assertIsNone(judge_run(LEFT, BAR, ()))
        self.assertIsNone(judge_run(LEFT, (), ((0, ()),) * 3))
        self.assertEqual(run_behind(BAR, ()), BAR)
        self.assertEqual(run_behind(BAR, ((0, ()),)), BAR)

    def test_form(self):
        good = (0, ((0, 0),))
        for wrong in ([good], good, (list(good),), (good, (0, [(0, 0)])), ((1, ()),), ((-1, ()),), ((False, ()),),
                      ((0, (), ()),), ((0,),), ((0, None),), ((0, ((0, 0), (0, 0))),), ((0, ((1, 0), (0, 0))),),
                      ((0, ((0, True),)),), ((0, ((0, 0, 0),)),), ((None, ()),), (("0", ()),), ((0, {}),), 7, None):
            self.assertEqual(judge_run(LEFT, BAR, wrong), ("form",))
        self.assertEqual(judge_run(LEFT, BAR, ((0, ((9, 9),)), (1, ()))), ("form",))

    def test_part(self):
        run = ((0, ((0, 0),)), (0, ()), (0, ((1, 0), (2, 0))), (0, ((9, 9),)))
        self.assertEqual(judge_run(LEFT, BAR, run), ("part", 2, (2, 0)))
        self.assertEqual(judge_run(BOTH, BAR, run), ("part", 3, (9, 9)))
        self.assertEqual(judge_run(LEFT, BAR, ((0, ((-1, 0), (0, 0))),)), ("part", 0, (-1, 0)))
        # What is struck once is there no more.
        self.assertEqual(judge_run(LEFT, BAR, run[:1] * 2), ("part", 1, (0, 0)))
        two = (1, 1, (((1,),), ((16,),)))
        self.assertIsNone(judge_run(two, BAR, ((1, ((2, 0),)), (0, ((0, 0),)))))
        self.assertEqual(judge_run(two, BAR, ((1, ((0, 0), (2, 0))),)), ("part", 0, (0, 0)))

    def test_any_value(self):
        for value in ODD_VALUES + (nested(40), ((0, nested(38)),), ((nested(38), ()),)):
            fault = judge_run(LEFT, BAR, value)
            self.assertEqual(fault, None if value == () else ("form",))

    def test_kept_till(self):
        chance = random.Random(4)
        for _ in range(40):
            rule = rough_rule(chance, 1, 2, 2, 0.6)
            picture = some_pictures(chance.randrange(99), 1, 4)[0]
            run = some_run(chance, rule, picture, 5)
            torn = [k for k in range(5) if not keeps(run_behind(picture, run[:k]), run[k][1])]
            self.assertEqual(kept_till(picture, run), torn[0] if torn else None)
        self.assertIsNone(kept_till(BAR, ()))
        self.assertEqual(kept_till(BAR, ((0, ((0, 0),)), (0, ((1, 0), (2, 0))))), 1)

    def test_safe_rules_keep_all_runs(self):
        chance = random.Random(5)
        for a, b in SIZES:
            rule = rough_rule(chance, a, b, 2, 0.7)
            safe = safe_within(rule, ())
            for picture in some_pictures(a * b, 4, 6) + [CORNERS]:
                run = some_run(chance, safe, picture, 8)
                self.assertIsNone(kept_till(picture, run))
                left = run_behind(picture, run)
                self.assertEqual(form_of(left), form_of(picture))
                self.assertEqual((len(pieces(left)), len(holes(left))), (len(pieces(picture)), len(holes(picture))))
            p, lot, picture = least_fault(rule)
            self.assertIsNone(judge_run(rule, picture, ((p, lot),)))
            self.assertEqual(kept_till(picture, ((p, lot),)), 0)


class Ends(unittest.TestCase):
    def test_all_that_runs_lead_to(self):
        chance = random.Random(6)
        begun = [drawn("##", "##", "#."), drawn("###", ".#."), drawn("#.#", ".#.", "#.#"), (), ((3, 3),), drawn("######")]
        for picture in begun + some_pictures(7, 3, 3):
            for a, b in ((1, 1), (2, 1), (3, 2)):
                rule = rough_rule(chance, a, b, 2, chance.choice((0.2, 0.5, 0.8)))
                reached = plain_reached(rule, picture)
                bare = sorted(left for left in reached if not plain_steps(rule, left))
                self.assertEqual(ends(rule, picture), tuple(bare))
                self.assertIn(bones(rule, picture), bare)
                self.assertIsNone(judge_ends(rule, picture, tuple(bare)))
                for left in bare + list(reached)[:60] + [picture + ((9, 9),)]:
                    run = run_to(rule, picture, left)
                    if left in bare:
                        self.assertEqual(len(run), reached[left])
                        self.assertEqual(run_behind(picture, run), left)
                        self.assertIsNone(judge_run(rule, picture, run))
                        self.assertNotIn((), [part for _, part in run])
                    else:
                        self.assertIsNone(run)

    def test_edges_of_run_to(self):
        self.assertEqual(run_to(LEFT, ((2, 0),), ((2, 0),)), ())
        self.assertEqual(run_to(LEFT, (), ()), ())
        self.assertIsNone(run_to(LEFT, BAR, BAR))
        self.assertIsNone(run_to(LEFT, BAR, ()))
        self.assertIsNone(run_to(LEFT, BAR, ((7, 7),)))
        self.assertIsNone(run_to(BOTH, PAIR, ((7, 7),)))
        self.assertIsNone(run_to(BOTH, PAIR, ((1, 0), (7, 7))))
        self.assertEqual(run_to(BOTH, PAIR, ()), ((0, PAIR),))
        self.assertEqual(ends(LEFT, ()), ((),))

    def test_judge_ends(self):
        right = ((), ((0, 0),), ((1, 0),))
        self.assertIsNone(judge_ends(BOTH, PAIR, right))
        for wrong in (list(right), right + right[:1], right[::-1], right + (None,), ((), [(0, 0)]), ((), ((0, True),)),
                      (((0, 0), (0, 0)),), (0, 0), "ends", (PAIR, ())):
            self.assertEqual(judge_ends(BOTH, PAIR, wrong), ("form",))
        self.assertEqual(judge_ends(BOTH, PAIR, (right[0], PAIR, right[2])), ("bare", 1))
        self.assertEqual(judge_ends(BOTH, PAIR, (right[0], PAIR, ((5, 0), (6, 0)))), ("bare", 1))
        self.assertEqual(judge_ends(BOTH, PAIR, (right[1], ((5, 5),), ((7, 7),))), ("led", 1))
        self.assertEqual(judge_ends(BOTH, PAIR, (((-1, 0),), PAIR)), ("bare", 1))
        self.assertEqual(judge_ends(BOTH, PAIR, ()), ("lacks", ()))
        self.assertEqual(judge_ends(BOTH, PAIR, right[:1] + right[2:]), ("lacks", ((0, 0),)))
        # What lies in the picture and is bare need not be led to.
        self.assertEqual(judge_ends(LEFT, BAR, (((1, 0),), ((2, 0),))), ("led", 0))

    def test_any_value(self):
        for value in ODD_VALUES + (nested(40),):
            self.assertIn(judge_ends(BOTH, PAIR, value), (("form",), ("lacks", ()), ("lacks", ((0, 0),)), ("led", 0), ("led", 1)))
        self.assertEqual(judge_ends(BOTH, PAIR, []), ("form",))


class EndCells(unittest.TestCase):
    def test_end_cells(self):
        for picture in some_pictures(8, 20, 6) + pictures_within(2, 3) + [(), BAR, RINGS]:
            told = tuple((x, y) for x, y in picture
                         if sum((x + i, y + j) in picture for i in (-1, 0, 1) for j in (-1, 0, 1)) <= 2)
            self.assertEqual(end_cells(picture), told)

    def test_spared(self):
        chance = random.Random(9)
        for a, b in SIZES:
            rule = rough_rule(chance, a, b, 2, 0.1)
            told = {code for tables in rule[2] for table in tables for code in table}
            self.assertEqual(spared(rule), tuple(code for code in CODES if code not in told))
        self.assertEqual(spared((1, 1, ((tuple(CODES),),))), ())
        self.assertEqual(spared((1, 1, (((),),))), tuple(CODES))

    def test_keeps_ends(self):
        few = [0] + [2 ** n for n in range(8)]
        others = tuple(code for code in CODES if code not in few)
        self.assertIs(keeps_ends((2, 1, ((others, ()), ((), others)))), True)
        self.assertIsNone(lost_end((2, 1, ((others, ()), ((), others)))))
        for code in few:
            rule = (2, 1, ((others, ()), ((), tuple(sorted(others + (code,))))))
            self.assertIs(keeps_ends(rule), False)
            self.assertEqual(lost_end(rule), (picture_of(((1, 0),) + cells_of_code((1, 0), code)), 1))

    def test_lost_end_is_the_least(self):
        self.assertEqual(lost_end((2, 2, (((4,), (2,), (4,), (2,)), ((2,), (4,), (), (0, 2))))), (((1, 1),), 1))
        # By code, then by x, then by y, then by the pass.
        self.assertEqual(lost_end((2, 2, (((4,), (2,), (4,), (2,)), ((2,), (4,), (), ())))), (((0, 0), (1, 1)), 1))
        self.assertEqual(lost_end((2, 2, (((), (), (8,), ()), ((), (8,), (), ())))), (((-1, 2), (0, 1)), 1))
        self.assertEqual(lost_end((1, 3, (((), (), (16,)), ((), (16,), (16,))))), (((-1, 1), (0, 1)), 1))
        self.assertEqual(lost_end((1, 3, (((), (), (16,)), ((), (), (16,))))), (((-1, 2), (0, 2)), 0))
        self.assertEqual(lost_end((1, 1, (((128,),),))), (((0, 0), (1, -1)), 0))

    def test_end_cells_stay(self):
        chance = random.Random(10)
        few = ("count", 0, 1)
        rule = made_rule(1, 1, ((("not", few),), (("both", (("simple",), ("not", few))),)))
        self.assertIs(keeps_ends(rule), True)
        for picture in some_pictures(11, 20, 4):
            kept = set(end_cells(picture))
            run = some_run(chance, rule, picture, 4)
            left = run_behind(picture, run)
            self.assertLessEqual(kept, set(end_cells(left)))
            self.assertLessEqual(kept, set(bones(rule, picture)))


if __name__ == "__main__":
    unittest.main()
