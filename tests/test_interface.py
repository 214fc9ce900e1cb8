"""The interface's names and arguments, each defined in its own file; and of [0.2] what all functions share."""

import ast
import copy
import importlib
import inspect
import unittest
from pathlib import Path

from boneways.boxes import judge_boxes, picture_of_boxes, picture_of_diamonds
from boneways.desk import Desk
from boneways.judging import judge_fault, judge_judgement
from boneways.kept import is_deed, new_board
from boneways.lots import first_clash, hands_left, safe_hands
from boneways.moves import judge_led
from boneways.pages import judge_book
from boneways.pictures import picture_of
from boneways.pieces import judge_holes, judge_pieces
from boneways.rims import judge_rims
from boneways.rules import judge_condition, judge_rule
from boneways.runs import judge_ends, judge_run
from boneways.shapes import judge_renaming
from boneways.simple import is_change, is_lot, judge_changes
from boneways.tree import judge_match
from boneways.webs import judge_web
from tests.plain import ODD_VALUES

PACKAGE = Path(__file__).parent.parent / "boneways"

FUNCTIONS = {
    "pictures": "is_cell(value); is_picture(value); picture_of(cells); side_cells(cell); near_cells(cell); "
                "united(one, other); shared(one, other); taken_out(one, other); unlike_cells(one, other); "
                "lies_in(one, other); flipped(picture, cell); box_of(picture); within_box(picture); "
                "shifted(picture, dx, dy); quarter_turned(picture, k); mirrored(picture); posed(picture, t); "
                "at_home(picture); poses(picture); least_pose(picture); shift_between(one, other); "
                "pose_between(one, other); blown(picture, k); unblown(picture, k); apart(one, other); "
                "beside(one, other)",
    "texts": "picture_text(picture); read_picture(text); cells_text(cells); read_cells(text)",
    "pieces": "pieces(picture); holes(picture); place_of(picture, cell); window_counts(picture); euler(picture); "
              "judge_pieces(picture, value); judge_holes(picture, value)",
    "tree": "parent_of(picture, place); children_of(picture, place); nodes(picture); around(picture, cell); "
            "form_of(picture); matched(one, other); judge_match(one, other, value); "
            "is_within(picture, place, cell); filled(picture); outer_part(picture); inside_out(picture)",
    "simple": "code_at(picture, cell); code_numbers(code); cells_of_code(cell, code); turned_code(code, t); "
              "code_pieces(code); code_rooms(code); is_simple_code(code); simple_codes(); is_simple(picture, cell); "
              "simple_cells(picture); is_lot(picture, value); struck(picture, lot); judge_struck(picture, lot); "
              "keeps(picture, lot); is_addable(picture, cell); addable(picture); with_cell(picture, cell); "
              "without_cell(picture, cell); is_change(picture, value); changed(picture, change); "
              "all_changes(picture); judge_changes(picture, value)",
    "lots": "is_free(picture, lot); least_bads(picture, lot); sort_of(picture, part); free_fault(picture, lot); "
            "judge_bad(picture, lot, value); order_of(picture, lot); judge_order(picture, lot, value); "
            "free_within(picture, lot, order); judge_most(picture, lot, value); all_simple_free(picture); "
            "hands_left(picture, hands); safe_hands(picture, hands); first_clash(picture, hands)",
    "rules": "judge_rule(value); is_rule(value); table_number(rule, cell); strikes_code(rule, p, cell, code); "
             "entries_of(rule, p); holds_of(condition, code); codes_of(condition); parts_in(condition); "
             "judge_condition(value); is_condition(value); made_rule(a, b, passes); narrowed(rule, condition); "
             "without(rule, p, k, code); refined(rule, a, b); alike_rules(one, other); turned_rule(rule, k)",
    "ruletexts": "condition_text(condition); rule_text(rule); read_condition(text); read_rule(text)",
    "judging": "bad_lots(a, b); is_safe(rule); faults_in(rule); least_fault(rule); judge_fault(rule, value); "
               "safe_within(rule, order); blocked_by(rule, safe, p, k, code); judgement(rule); "
               "judge_judgement(rule, value)",
    "runs": "strikes(rule, p, picture); pass_behind(rule, p, picture); round_behind(rule, picture); "
            "run_behind(picture, run); judge_run(rule, picture, value); is_bare(rule, picture); "
            "rounds_of(rule, picture); bones(rule, picture); ends(rule, picture); run_to(rule, picture, end); "
            "judge_ends(rule, picture, value); kept_till(picture, run); spared(rule); end_cells(picture); "
            "keeps_ends(rule); lost_end(rule)",
    "webs": "tied_to(picture, cell); ties(picture); squares(picture); is_thin(picture); web_of(picture); "
            "cells_of_web(web); judge_web(picture, value); branches(web, knot); kinds_of_knots(web); loops(web); "
            "sides(picture, way); is_bridge(picture, way)",
    "shapes": "shape(web); renaming(one, other, measured); judge_renaming(one, other, measured, value); "
              "least_shape(a, measured)",
    "boxes": "step_depths(picture); box_depths(picture); depth_between(one, other, is_near); box_cells(box); "
             "diamond_cells(diamond); greatest_boxes(picture); greatest_diamonds(picture); picture_of_boxes(boxes); "
             "picture_of_diamonds(diamonds); judge_boxes(picture, value); needed_boxes(picture); "
             "kept_boxes(picture, order); fewest_boxes(picture); ridge(picture)",
    "sizes": "shrunk_by(picture, r); grown_by(picture, r); opened_by(picture, r); closed_by(picture, r); "
             "sizes_told(picture); greatest_size(picture); within_reach(picture, cell, r)",
    "rims": "picture_sides(picture); next_side(picture, side); rims(picture); rim_sides(rim); rim_length(rim); "
            "rim_box(rim); rim_area(rim); rim_turns(rim); is_outer(rim); picture_of_rims(value); judge_rims(value); "
            "rim_of_piece(picture, cell); rims_of_piece(picture, cell); rim_of_hole(picture, cell); "
            "rim_about(picture, k)",
    "turning": "turn_word(rim); least_turns(rim); rim_from(corner, d, turns); shifted_rim(rim, dx, dy); "
               "turned_rim(rim); mirrored_rim(rim)",
    "changes": "behind_row(picture, row); pictures_of(picture, row); contrary(row); two_led(one, other); "
               "shrink_row(picture); shrunk(picture); shrink_by(picture, order); near_pictures(picture, k); "
               "least_changes(one, other, k); changes_bound(one, other)",
    "moves": "step_row(cell, other); free_way(picture, cell, to, room); way_row(way); line_up(picture, x); "
             "led(one, other); judge_led(one, other, value)",
    "kept": "new_board(picture); is_deed(board, value); done(board, deed); undone(board); redone(board); "
            "euler_change(code); effect(board, deed); simple_now(board); addable_now(board); "
            "near_deed(board, deed); is_kept(board); first_torn(board); board_pictures(board); area_of(board); "
            "span_of(board)",
    "pages": "letters_of(page); put_glyph(page, place, glyph); judge_book(value); name_of(book, glyph); "
             "turned_names(book, glyph); signs_of(glyph); near_names(book, glyph); set_line(book, text, gap); "
             "lines_of(page); read_page(book, page); compare(one, other); patched(page, lost, new)",
    "deeds": "deed_text(deed); read_deed(text); log_text(deeds); read_log(text)",
}
# The classes of files that are no errors, each with its methods.
METHODS = {
    "House": "board(); do(deed); undo(); redo(); deeds(); twin(); blot(cells); picture(); counts(); kept(); torn(); "
             "simple(); addable(); effect_of(deed); letters()",
    "Desk": "house(); say(line)",
}
CLASSES = ("BoneError", "BadText", "BadRule", "BadPaper", "BadDeed", "NoWay", "TooMany", "NothingDone")


class Names(unittest.TestCase):
    def test_functions(self):
        for name, told in FUNCTIONS.items():
            tree = ast.parse((PACKAGE / f"{name}.py").read_text())
            defined = {node.name for node in tree.body if isinstance(node, ast.FunctionDef)}
            module = importlib.import_module(f"boneways.{name}")
            for head in told.split("; "):
                word = head.partition("(")[0]
                self.assertIn(word, defined)
                self.assertEqual(word + str(inspect.signature(getattr(module, word))), head)

    def test_methods(self):
        for name, told in METHODS.items():
            tree = ast.parse((PACKAGE / f"{name.lower()}.py").read_text())
            body = [node.body for node in tree.body if isinstance(node, ast.ClassDef) and node.name == name][0]
            defined = {node.name for node in body if isinstance(node, ast.FunctionDef)}
            kind = getattr(importlib.import_module(f"boneways.{name.lower()}"), name)
            self.assertEqual(str(inspect.signature(kind)), "(picture)")
            for head in told.split("; "):
                word, _, rest = head.partition("(")
                self.assertIn(word, defined)
                passed = "self, " + rest if rest != ")" else "self)"
                self.assertEqual(str(inspect.signature(getattr(kind, word))), "(" + passed)

    def test_classes(self):
        tree = ast.parse((PACKAGE / "errors.py").read_text())
        self.assertEqual(tuple(node.name for node in tree.body if isinstance(node, ast.ClassDef)), CLASSES)


RING = ((0, 0), (0, 1), (0, 2), (1, 0), (1, 2), (2, 0), (2, 1), (2, 2))
RULE = (1, 1, (((1, 16),),))


class Arguments(unittest.TestCase):
    def test_nothing_passed_is_modified(self):
        values = ODD_VALUES + ([((0, 0), 0), ((0, 0), 1)], [[1, [2, {"a": [3]}]]], ([0, 0], {(1, 1): [()]}))
        for value in values:
            before = copy.deepcopy(value)
            for judge in (judge_pieces, judge_holes, judge_changes, is_lot, is_change):
                self.assertEqual(judge(RING, value), judge(RING, copy.deepcopy(value)))
            judge_match(RING, RING, value)
            judge_rule(value)
            judge_condition(value)
            for judge in (judge_fault, judge_judgement):
                self.assertEqual(judge(RULE, value), judge(RULE, copy.deepcopy(value)))
            for judge in (judge_run, judge_ends):
                self.assertEqual(judge(RULE, RING[:3], value), judge(RULE, RING[:3], copy.deepcopy(value)))
            for judge in (judge_web, judge_boxes):
                self.assertEqual(judge(RING, value), judge(RING, copy.deepcopy(value)))
            self.assertEqual(judge_rims(value), judge_rims(copy.deepcopy(value)))
            judge_renaming((2, ()), (2, ()), 1, value)
            self.assertEqual(judge_led(RING, RING, value), judge_led(RING, RING, copy.deepcopy(value)))
            self.assertEqual(is_deed(new_board(RING), value), is_deed(new_board(RING), copy.deepcopy(value)))
            self.assertEqual(judge_book(value), judge_book(copy.deepcopy(value)))
            self.assertEqual(Desk(RING).say(value), Desk(RING).say(copy.deepcopy(value)))
            self.assertEqual(repr(value), repr(before))
        hands = [[(0, 0), (0, 2)], [(2, 0)], []]
        before = copy.deepcopy(hands)
        told = (hands_left(RING, hands), safe_hands(RING, hands), first_clash(RING, hands), picture_of(hands[0]))
        self.assertEqual(told, (RING[1:2] + RING[3:5] + RING[6:], True, None, ((0, 0), (0, 2))))
        self.assertEqual(hands, before)
        boxes = [((0, 0), 2), [(5, 5), 1]]
        before = copy.deepcopy(boxes)
        self.assertEqual(len(picture_of_boxes(boxes)) + len(picture_of_diamonds(boxes)), 10 + 6)
        self.assertEqual(boxes, before)


if __name__ == "__main__":
    unittest.main()
