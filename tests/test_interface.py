"""The interface's names and arguments, each defined in its own file; and of [0.2] what all functions share."""

import ast
import copy
import importlib
import inspect
import unittest
from pathlib import Path

from boneways.lots import first_clash, hands_left, safe_hands
from boneways.pictures import picture_of
from boneways.pieces import judge_holes, judge_pieces
from boneways.rules import judge_condition, judge_rule
from boneways.simple import is_change, is_lot, judge_changes
from boneways.tree import judge_match
from tests.plain import ODD_VALUES

PACKAGE = Path(__file__).parent.parent / "boneways"

FUNCTIONS = {
    "pictures": "is_cell(value); is_picture(value); picture_of(cells); side_cells(cell); near_cells(cell); "
                "united(one, other); shared(one, other); taken_out(one, other); unlike_cells(one, other); "
                "lies_in(one, other); flipped(picture, cell); box_of(picture); within_box(picture); "
                "shifted(picture, dx, dy); quarter_turned(picture, k); mirrored(picture); posed(picture, t); "
                "at_home(picture); poses(picture); least_pose(picture); shift_between(one, other); "
                "pose_between(one, other); blown(picture, k); unblown(picture, k); apart(one, other); "
                "beside(one, other)",
    "texts": "picture_text(picture); read_picture(text); cells_text(cells); read_cells(text)",
    "pieces": "pieces(picture); holes(picture); place_of(picture, cell); window_counts(picture); euler(picture); "
              "judge_pieces(picture, value); judge_holes(picture, value)",
    "tree": "parent_of(picture, place); children_of(picture, place); nodes(picture); around(picture, cell); "
            "form_of(picture); matched(one, other); judge_match(one, other, value); "
            "is_within(picture, place, cell); filled(picture); outer_part(picture); inside_out(picture)",
    "simple": "code_at(picture, cell); code_numbers(code); cells_of_code(cell, code); turned_code(code, t); "
              "code_pieces(code); code_rooms(code); is_simple_code(code); simple_codes(); is_simple(picture, cell); "
              "simple_cells(picture); is_lot(picture, value); struck(picture, lot); judge_struck(picture, lot); "
              "keeps(picture, lot); is_addable(picture, cell); addable(picture); with_cell(picture, cell); "
              "without_cell(picture, cell); is_change(picture, value); changed(picture, change); "
              "all_changes(picture); judge_changes(picture, value)",
    "lots": "is_free(picture, lot); least_bads(picture, lot); sort_of(picture, part); free_fault(picture, lot); "
            "judge_bad(picture, lot, value); order_of(picture, lot); judge_order(picture, lot, value); "
            "free_within(picture, lot, order); judge_most(picture, lot, value); all_simple_free(picture); "
            "hands_left(picture, hands); safe_hands(picture, hands); first_clash(picture, hands)",
    "rules": "judge_rule(value); is_rule(value); table_number(rule, cell); strikes_code(rule, p, cell, code); "
             "entries_of(rule, p); holds_of(condition, code); codes_of(condition); parts_in(condition); "
             "judge_condition(value); is_condition(value); made_rule(a, b, passes); narrowed(rule, condition); "
             "without(rule, p, k, code); refined(rule, a, b); alike_rules(one, other); turned_rule(rule, k)",
}
CLASSES = ("BoneError", "BadText", "BadRule", "BadPaper", "BadDeed", "NoWay", "TooMany", "NothingDone")


class Names(unittest.TestCase):
    def test_functions(self):
        for name, told in FUNCTIONS.items():
            tree = ast.parse((PACKAGE / f"{name}.py").read_text())
            defined = {node.name for node in tree.body if isinstance(node, ast.FunctionDef)}
            module = importlib.import_module(f"boneways.{name}")
            for head in told.split("; "):
                word = head.partition("(")[0]
                self.assertIn(word, defined)
                self.assertEqual(word + str(inspect.signature(getattr(module, word))), head)

    def test_classes(self):
        tree = ast.parse((PACKAGE / "errors.py").read_text())
        self.assertEqual(tuple(node.name for node in tree.body if isinstance(node, ast.ClassDef)), CLASSES)


RING = ((0, 0), (0, 1), (0, 2), (1, 0), (1, 2), (2, 0), (2, 1), (2, 2))


class Arguments(unittest.TestCase):
    def test_nothing_passed_is_modified(self):
        values = ODD_VALUES + ([((0, 0), 0), ((0, 0), 1)], [[1, [2, {"a": [3]}]]], ([0, 0], {(1, 1): [()]}))
        for value in values:
            before = copy.deepcopy(value)
            for judge in (judge_pieces, judge_holes, judge_changes, is_lot, is_change):
                self.assertEqual(judge(RING, value), judge(RING, copy.deepcopy(value)))
            judge_match(RING, RING, value)
            judge_rule(value)
            judge_condition(value)
            self.assertEqual(repr(value), repr(before))
        hands = [[(0, 0), (0, 2)], [(2, 0)], []]
        before = copy.deepcopy(hands)
        told = (hands_left(RING, hands), safe_hands(RING, hands), first_clash(RING, hands), picture_of(hands[0]))
        self.assertEqual(told, (RING[1:2] + RING[3:5] + RING[6:], True, None, ((0, 0), (0, 2))))
        self.assertEqual(hands, before)


if __name__ == "__main__":
    unittest.main()
