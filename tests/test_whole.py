"""What the document promises over the whole program: the sentences FOR ALL, of pages, glyphs, boards, houses and desks.

And of [0.2], for each function of the interface: nothing passed is modified, nothing returned is shared, equal
arguments have equal answers; of [0.3], what judges and is_.. return.
"""

import copy
import importlib
import random
import unittest

from boneways.boxes import greatest_boxes, greatest_diamonds, judge_boxes, picture_of_boxes, picture_of_diamonds
from boneways.changes import behind_row, contrary, pictures_of, shrink_row, shrunk
from boneways.deeds import log_text, read_log
from boneways.desk import Desk
from boneways.house import House
from boneways.judging import is_safe, judge_judgement, judgement, safe_within
from boneways.kept import (
    board_pictures, done, effect, is_kept, near_deed, new_board, redone, simple_now, undone)
from boneways.lots import all_simple_free, free_fault, hands_left, least_bads, order_of
from boneways.moves import judge_led, led
from boneways.pages import compare, letters_of, patched, put_glyph, read_page, set_line, signs_of, turned_names
from boneways.pictures import at_home, least_pose, mirrored, pose_between, posed, quarter_turned, shifted, united
from boneways.pieces import euler, holes, judge_holes, judge_pieces, pieces, window_counts
from boneways.rims import is_outer, judge_rims, picture_of_rims, rim_area, rim_turns, rims
from boneways.rules import made_rule
from boneways.runs import bones, end_cells, is_bare, kept_till, rounds_of, strikes
from boneways.simple import all_changes, changed, code_at, is_simple, judge_changes, keeps, struck, turned_code
from boneways.sizes import closed_by, grown_by, opened_by, shrunk_by
from boneways.texts import cells_text, picture_text, read_cells, read_picture
from boneways.tree import filled, form_of, inside_out, judge_match, matched, nodes
from boneways.turning import least_turns, mirrored_rim, shifted_rim, turned_rim
from boneways.webs import cells_of_web, is_thin, judge_web, loops, squares, ties, web_of
from tests.plain import ODD_VALUES
from tests.test_interface import FUNCTIONS
from tests.test_pages import WIDE
from tests.test_pieces import CORNERS, RINGS

RULE = made_rule(2, 2, ((("both", (("simple",), ("count", 2, 8))),) * 4,) * 2)
SAFE = safe_within(RULE, ())


def subjects():
    """Pictures as pages, glyphs, boards, houses and desks have them."""
    told = [set_line(WIDE, "big nod", 2), set_line(WIDE, "lusi", 1), (), RINGS, CORNERS]
    told += [glyph for _, glyph in WIDE]
    chance = random.Random(1)
    board, house, desk = new_board(told[0]), House(RINGS), Desk(told[1])
    for _ in range(12):
        board = done(board, ("strike", chance.choice(board["picture"])))
        house.blot(((chance.randrange(9), chance.randrange(9)),))
        desk.say("add " + cells_text(((chance.randrange(20), chance.randrange(-3, 6)),)))
    board = undone(done(board, ("shift", -77, 10 ** 5)))
    return told + [board["picture"], *board_pictures(board)[::5], house.picture(), read_picture(desk.say("picture"))]


class ForAll(unittest.TestCase):
    def test_texts(self):
        for picture in subjects():
            self.assertEqual(read_picture(picture_text(picture)), picture)
            self.assertEqual(read_cells(cells_text(picture)), picture)

    def test_turns(self):
        for picture in subjects():
            for t in range(8):
                led_there = posed(picture, t)
                self.assertEqual(least_pose(led_there), least_pose(picture))
                self.assertIsNotNone(pose_between(picture, shifted(led_there, 3, -3)))
                self.assertEqual((form_of(led_there), euler(led_there)), (form_of(picture), euler(picture)))
                for cell in picture[::5]:
                    there = posed((cell,), t)[0]
                    self.assertEqual(code_at(led_there, there), turned_code(code_at(picture, cell), t))

    def test_pieces_holes_and_trees(self):
        for picture in subjects():
            self.assertIsNone(judge_pieces(picture, pieces(picture)))
            self.assertIsNone(judge_holes(picture, holes(picture)))
            one, three, cross = window_counts(picture)
            self.assertEqual(4 * (len(pieces(picture)) - len(holes(picture))), one - three - 2 * cross)
            self.assertEqual(len(nodes(picture)), len(pieces(picture)) + len(holes(picture)))
            outer = [place for place, parent in nodes(picture) if parent == ("outside",)]
            self.assertEqual((len(pieces(filled(picture))), holes(filled(picture))), (len(outer), ()))
            self.assertLessEqual(len(pieces(inside_out(picture))), len(holes(picture)))
            other = shifted(mirrored(picture), 5, 5)
            self.assertIsNone(judge_match(picture, other, matched(picture, other)))

    def test_striking_and_changes(self):
        chance = random.Random(2)
        for picture in subjects():
            for cell in picture[::3]:
                self.assertEqual(keeps(picture, (cell,)), is_simple(picture, cell))
            row, behind = [], picture
            for _ in range(8 if picture else 0):
                row.append(chance.choice(all_changes(behind)))
                behind = changed(behind, row[-1])
            self.assertEqual(form_of(behind), form_of(picture))
            self.assertIsNone(judge_changes(picture, row))
            self.assertEqual(behind_row(behind, contrary(tuple(row))), picture)
            for each in pictures_of(picture, tuple(row)):
                self.assertEqual((form_of(each), euler(each)), (form_of(picture), euler(picture)))

    def test_lots_and_hands(self):
        chance = random.Random(3)
        for picture in subjects():
            free = all_simple_free(picture)
            self.assertIsNone(free_fault(picture, free))
            hands = [tuple(cell for cell in free if chance.randrange(2)) for _ in range(3)]
            for many in range(4):
                self.assertEqual(form_of(hands_left(picture, hands[:many])), form_of(picture))
            lot = tuple(sorted(chance.sample(picture, min(6, len(picture)))))
            self.assertEqual(keeps(picture, lot), order_of(picture, lot) is not None)
            self.assertEqual(free_fault(picture, lot) is None, least_bads(picture, lot) == ())

    def test_rules_and_runs(self):
        self.assertIs(is_safe(SAFE), True)
        self.assertIsNone(judge_judgement(SAFE, judgement(SAFE)))
        self.assertIsNone(judge_judgement(RULE, judgement(RULE)))
        chance = random.Random(4)
        for picture in subjects():
            left, run = picture, []
            for p in (0, 1, 0, 1):
                part = tuple(cell for cell in strikes(SAFE, p, left) if chance.randrange(3))
                run.append((p, part))
                left = struck(left, part)
            self.assertIsNone(kept_till(picture, tuple(run)))
            self.assertEqual(form_of(left), form_of(picture))
            self.assertLessEqual(len(rounds_of(SAFE, picture)), len(picture))
            thin = bones(SAFE, picture)
            self.assertIs(is_bare(SAFE, thin), True)
            self.assertEqual(form_of(thin), form_of(picture))
            self.assertLessEqual(set(end_cells(picture)), set(thin))

    def test_webs(self):
        for picture in subjects():
            for each in (picture, bones(SAFE, picture)):
                self.assertEqual(len(each) - len(ties(each)) + len(squares(each)), euler(each))
                if is_thin(each):
                    web = web_of(each)
                    self.assertIsNone(judge_web(each, web))
                    self.assertEqual((cells_of_web(web), loops(web)), (each, len(holes(each))))

    def test_boxes_and_sizes(self):
        for picture in subjects():
            self.assertIsNone(judge_boxes(picture, greatest_boxes(picture)))
            self.assertEqual(picture_of_boxes(greatest_boxes(picture)), picture)
            self.assertEqual(picture_of_diamonds(greatest_diamonds(picture)), picture)
            for r in range(3):
                opened, closed = opened_by(picture, r), closed_by(picture, r)
                self.assertTrue(set(opened) <= set(picture) <= set(closed))
                self.assertEqual((opened_by(opened, r), closed_by(closed, r)), (opened, closed))
                self.assertEqual(shrunk_by(grown_by(picture, r), r), closed)

    def test_rims(self):
        for picture in subjects():
            told = rims(picture)
            self.assertIsNone(judge_rims(told))
            self.assertEqual((picture_of_rims(told), sum(rim_area(rim) for rim in told)), (picture, len(picture)))
            self.assertEqual(len([rim for rim in told if is_outer(rim)]), len(pieces(picture)))
            self.assertEqual(len([rim for rim in told if rim_turns(rim) == -4]), len(holes(picture)))
            for lead, turned in ((lambda each: quarter_turned(each, 1), turned_rim), (mirrored, mirrored_rim)):
                self.assertEqual(rims(lead(picture)), tuple(sorted(shifted_rim(turned(rim), 1, 0) for rim in told)))
            words = sorted(least_turns(rim) for rim in told)
            for t in range(4):
                self.assertEqual(sorted(least_turns(rim) for rim in rims(posed(picture, t))), words)

    def test_shrinking_and_leading(self):
        flat = [picture for picture in subjects() if not holes(picture)]
        for picture in subjects():
            self.assertEqual((form_of(shrunk(picture)), judge_changes(picture, shrink_row(picture))),
                             (form_of(picture), None))
        self.assertGreater(len(flat), 5)
        for one in flat:
            for other in flat:
                row = led(one, other)
                self.assertEqual(row is None, len(pieces(one)) != len(pieces(other)))
                if row is not None:
                    self.assertIsNone(judge_led(one, other, row))

    def test_boards(self):
        chance = random.Random(5)
        for picture in subjects():
            board, tree_stays = new_board(picture), True
            for _ in range(10):
                kind = "strike" if board["picture"] and chance.randrange(2) else "add"
                cell = chance.choice(board["picture"]) if kind == "strike" else (chance.randrange(50), 99)
                deed = (kind, cell) if kind == "strike" or cell not in board["picture"] else ("shift", 1, 0)
                rise, before = effect(board, deed), board
                board = done(board, deed)
                self.assertEqual(undone(board)["picture"], before["picture"])
                self.assertEqual(redone(undone(board)), board)
                self.assertEqual(board["euler"], len(pieces(board["picture"])) - len(holes(board["picture"])))
                tree_stays = tree_stays and rise == (0, 0, 0)
                self.assertEqual(is_kept(board), tree_stays)
                if deed[0] != "shift":
                    self.assertLessEqual(set(simple_now(board)) ^ set(simple_now(before)), set(near_deed(before, deed)))
            self.assertEqual(read_log(log_text(board["log"])), board["log"])

    def test_pages_and_glyphs(self):
        for picture in subjects():
            back = ()
            for place, glyph in letters_of(picture):
                back = put_glyph(back, place, glyph)
                for t in range(8):
                    turned = at_home(posed(glyph, t))
                    self.assertEqual(signs_of(turned), signs_of(glyph))
                    self.assertTrue(all(at_home(posed(dict(WIDE)[name], k)) == turned
                                        for name, k in turned_names(WIDE, turned)))
            self.assertEqual(back, picture)
            self.assertEqual(House(picture).letters(), letters_of(picture))
            for other in subjects()[::3]:
                _, lost, new = compare(picture, other)
                self.assertEqual(patched(picture, lost, new), other)
        self.assertEqual(read_page(WIDE, set_line(WIDE, "big nod", 2)), ["bignod"])

    def test_a_page_thinned_and_read(self):
        # All parts together: a page is thinned by a safe rule, and its letters keep their signs of holes.
        page = set_line(WIDE, "bog", 3)
        thin = bones(SAFE, page)
        self.assertEqual([signs_of(glyph)[1:3] for _, glyph in letters_of(thin)],
                         [signs_of(glyph)[1:3] for _, glyph in letters_of(page)])


BAR, HOOK, DOTS = ((0, 0), (1, 0), (2, 0)), ((0, 0), (0, 1), (1, 0)), ((0, 0), (0, 2))
RING = ((0, 0), (0, 1), (0, 2), (1, 0), (1, 2), (2, 0), (2, 1), (2, 2))
END, RIM, ROW = (1, 1, (((1,),),)), rims(HOOK)[0], (((0, 0), 0), ((2, 1), 1))
WEB, SHAPE, BOXES = web_of(BAR), (2, ((0, 1, 2, 0),)), [((0, 0), 1), ((5, 5), 2)]
BOARD = undone(done(done(new_board(RING), ("strike", (0, 0))), ("shift", 1, 1)))
LETTER = ((0, 0), ((0, 0),))

# Arguments for each function of the interface, lists where lists are asked.
CALLS = {
    "pictures": {
        "is_cell": ([0, 0],), "is_picture": ([(0, 0)],), "picture_of": ([(1, 0), (0, 0)],), "side_cells": ((0, 0),),
        "near_cells": ((0, 0),), "united": (BAR, HOOK), "shared": (BAR, HOOK), "taken_out": (BAR, HOOK),
        "unlike_cells": (BAR, HOOK), "lies_in": (BAR, HOOK), "flipped": (BAR, (1, 0)), "box_of": (BAR,),
        "within_box": (HOOK,), "shifted": (BAR, 1, 2), "quarter_turned": (BAR, -1), "mirrored": (BAR,),
        "posed": (BAR, 5), "at_home": (BAR,), "poses": (HOOK,), "least_pose": (HOOK,), "shift_between": (BAR, BAR),
        "pose_between": (BAR, HOOK), "blown": (BAR, 2), "unblown": (BAR, 2), "apart": (BAR, HOOK),
        "beside": (BAR, HOOK)},
    "texts": {"picture_text": (RING,), "read_picture": ("empty",), "cells_text": (BAR,), "read_cells": ("1,1",)},
    "pieces": {
        "pieces": (RING,), "holes": (RING,), "place_of": (RING, (1, 1)), "window_counts": (RING,), "euler": (RING,),
        "judge_pieces": (RING, [RING]), "judge_holes": (RING, [])},
    "tree": {
        "parent_of": (RING, ("hole", (1, 1))), "children_of": (RING, ("outside",)), "nodes": (RING,),
        "around": (RING, (1, 1)), "form_of": (RING,), "matched": (RING, RING), "judge_match": (RING, RING, [()]),
        "is_within": (RING, ("outside",), (1, 1)), "filled": (RING,), "outer_part": (RING,), "inside_out": (RING,)},
    "simple": {
        "code_at": (RING, (1, 1)), "code_numbers": (17,), "cells_of_code": ((0, 0), 17), "turned_code": (3, 5),
        "code_pieces": (17,), "code_rooms": (17,), "is_simple_code": (1,), "simple_codes": (),
        "is_simple": (RING, (0, 0)), "simple_cells": (RING,), "is_lot": (RING, [(0, 0)]), "struck": (RING, BAR[:1]),
        "judge_struck": (RING, BAR), "keeps": (RING, BAR), "is_addable": (RING, (5, 5)), "addable": (RING,),
        "with_cell": (RING, (1, 1)), "without_cell": (RING, (0, 0)), "is_change": (BAR, [(0, 0), 0]),
        "changed": (BAR, ROW[0]), "all_changes": (BAR,), "judge_changes": (BAR, list(ROW))},
    "lots": {
        "is_free": (RING, BAR[:1]), "least_bads": (RING, BAR), "sort_of": (RING, BAR[:1]), "free_fault": (RING, BAR),
        "judge_bad": (BAR, BAR, [(0, 0)]), "order_of": (BAR, BAR[:2]), "judge_order": (BAR, BAR, [(0, 0)]),
        "free_within": (BAR, BAR, BAR), "judge_most": (BAR, BAR, [(0, 0)]), "all_simple_free": (RING,),
        "hands_left": (BAR, [[(0, 0)], BAR[1:2]]), "safe_hands": (BAR, [BAR[:1], BAR[2:]]),
        "first_clash": (BAR, [BAR[:1], BAR[2:]])},
    "rules": {
        "judge_rule": ([1, 1, [[[1]]]],), "is_rule": ([1, 1, [[[1]]]],), "table_number": (END, (0, 0)),
        "strikes_code": (END, 0, (0, 0), 1), "entries_of": (END, 0), "holds_of": (("simple",), 1),
        "codes_of": (("simple",),), "parts_in": (("not", ("all",)),), "judge_condition": (["all"],),
        "is_condition": (["all"],), "made_rule": (1, 1, ((("simple",),),)), "narrowed": (END, ("all",)),
        "without": (END, 0, 0, 1), "refined": (END, 2, 1), "alike_rules": (END, END), "turned_rule": (END, 3)},
    "ruletexts": {
        "condition_text": (("all",),), "rule_text": (END,), "read_condition": ("all",),
        "read_rule": ("rule 1 1\npass : 1",)},
    "judging": {
        "bad_lots": (1, 1), "is_safe": (END,), "faults_in": (RULE,), "least_fault": (RULE,),
        "judge_fault": (END, [0, BAR, BAR]), "safe_within": (END, ((0, 0, 1),)),
        "blocked_by": ((1, 1, (((1, 16),),)), END, 0, 0, 16), "judgement": (RULE,),
        "judge_judgement": (RULE, ("fault", [0]))},
    "runs": {
        "strikes": (END, 0, BAR), "pass_behind": (END, 0, BAR), "round_behind": (END, BAR),
        "run_behind": (BAR, ((0, BAR[:1]),)), "judge_run": (END, BAR, [(0, [])]), "is_bare": (END, BAR),
        "rounds_of": (END, BAR), "bones": (END, BAR), "ends": (END, BAR), "run_to": (END, BAR, BAR[2:]),
        "judge_ends": (END, BAR, [[]]), "kept_till": (BAR, ((0, BAR[:1]),)), "spared": (END,), "end_cells": (BAR,),
        "keeps_ends": (END,), "lost_end": (END,)},
    "webs": {
        "tied_to": (BAR, (1, 0)), "ties": (BAR,), "squares": (RING,), "is_thin": (BAR,), "web_of": (BAR,),
        "cells_of_web": (WEB,), "judge_web": (BAR, [[], []]), "branches": (WEB, (0, 0)), "kinds_of_knots": (WEB,),
        "loops": (WEB,), "sides": (BAR, WEB[1][0]), "is_bridge": (BAR, WEB[1][0])},
    "shapes": {
        "shape": (WEB,), "renaming": (SHAPE, SHAPE, 1), "judge_renaming": (SHAPE, SHAPE, 1, [0, 1]),
        "least_shape": (SHAPE, 0)},
    "boxes": {
        "step_depths": (RING,), "box_depths": (RING,), "depth_between": ((0, 0), (2, 1), True),
        "box_cells": (BOXES[1],), "diamond_cells": (BOXES[1],), "greatest_boxes": (RING,), "greatest_diamonds": (RING,),
        "picture_of_boxes": (BOXES,), "picture_of_diamonds": (BOXES,), "judge_boxes": (RING, BOXES),
        "needed_boxes": (RING,), "kept_boxes": (BAR, tuple((cell, 1) for cell in BAR)), "fewest_boxes": (BAR,),
        "ridge": (BAR,)},
    "sizes": {
        "shrunk_by": (RING, 1), "grown_by": (RING, 1), "opened_by": (RING, 1), "closed_by": (RING, 1),
        "sizes_told": (RING,), "greatest_size": (RING,), "within_reach": (RING, (1, 1), 1)},
    "rims": {
        "picture_sides": (RING,), "next_side": (RING, ((0, 0), 0)), "rims": (RING,), "rim_sides": (RIM,),
        "rim_length": (RIM,), "rim_box": (RIM,), "rim_area": (RIM,), "rim_turns": (RIM,), "is_outer": (RIM,),
        "picture_of_rims": (rims(RING),), "judge_rims": ([[(0, 0), [0]]],), "rim_of_piece": (RING, (0, 0)),
        "rims_of_piece": (RING, (0, 0)), "rim_of_hole": (RING, (1, 1)), "rim_about": (RING, 1)},
    "turning": {
        "turn_word": (RIM,), "least_turns": (RIM,), "rim_from": ((0, 0), 0, (1, 1, 1, 1)), "shifted_rim": (RIM, 1, 2),
        "turned_rim": (RIM,), "mirrored_rim": (RIM,)},
    "changes": {
        "behind_row": (BAR, ROW), "pictures_of": (BAR, ROW), "contrary": (ROW,), "two_led": (ROW, ROW[:1]),
        "shrink_row": (BAR,), "shrunk": (BAR,), "shrink_by": (BAR, ((9, 9), (2, 0))), "near_pictures": (BAR, 2),
        "least_changes": (BAR, BAR[:1], 4), "changes_bound": (BAR, HOOK)},
    "moves": {
        "step_row": ((0, 0), (1, 1)), "free_way": (DOTS, (0, 0), (5, 5), (0, 0, 9, 9)), "way_row": (((0, 0), (1, 1)),),
        "line_up": (DOTS, 2), "led": (BAR, HOOK), "judge_led": (BAR, HOOK, [((0, 0), 0)])},
    "kept": {
        "new_board": (RING,), "is_deed": (BOARD, ["strike", [0, 0]]), "done": (BOARD, ("add", (5, 5))),
        "undone": (BOARD,), "redone": (BOARD,), "euler_change": (17,), "effect": (BOARD, ("add", (1, 1))),
        "simple_now": (BOARD,), "addable_now": (BOARD,), "near_deed": (BOARD, ("add", (1, 1))), "is_kept": (BOARD,),
        "first_torn": (BOARD,), "board_pictures": (BOARD,), "area_of": (BOARD,), "span_of": (BOARD,)},
    "pages": {
        "letters_of": (DOTS,), "put_glyph": (BAR, (9, 9), HOOK), "judge_book": ([["a", HOOK]],),
        "name_of": (WIDE, HOOK), "turned_names": (WIDE, HOOK), "signs_of": (HOOK,), "near_names": (WIDE, HOOK),
        "set_line": (WIDE, "big", 1), "lines_of": (DOTS,), "read_page": (WIDE, DOTS), "compare": (DOTS, BAR),
        "patched": (DOTS, (LETTER,), (((7, 7), HOOK),))},
    "deeds": {
        "deed_text": (("add", (1, 1)),), "read_deed": ("add 1,1",), "log_text": ([("add", (1, 1)), ("shift", 1, 2)],),
        "read_log": ("add 1,1\nshift 1 2",)},
}


def containers(value):
    """The numbers by which Python knows the lists and dicts within a value."""
    if isinstance(value, dict):
        return {id(value)}.union(*[containers(item) for item in value.values()])
    if isinstance(value, (list, tuple)):
        inner = set().union(*[containers(item) for item in value])
        return inner | {id(value)} if isinstance(value, list) else inner
    return set()


class EachFunction(unittest.TestCase):
    def test_there_is_a_call_of_each(self):
        for name, told in FUNCTIONS.items():
            self.assertEqual(sorted(CALLS[name]), sorted(head.partition("(")[0] for head in told.split("; ")))

    def test_nothing_is_modified_and_answers_are_equal(self):
        for name, calls in CALLS.items():
            module = importlib.import_module(f"boneways.{name}")
            for word, passed in calls.items():
                with self.subTest(word=word):
                    before = repr(passed)
                    first = getattr(module, word)(*passed)
                    second = getattr(module, word)(*copy.deepcopy(passed))
                    self.assertEqual((repr(passed), repr(second)), (before, repr(first)))
                    # Lists and dicts that are returned are no one else's.
                    self.assertEqual(containers(first) & containers(passed), set())
                    third = getattr(module, word)(*passed)
                    self.assertEqual(containers(first) & containers(third), set())
                    if word.startswith("is_") or word in ("keeps", "lies_in", "apart", "safe_hands", "keeps_ends"):
                        self.assertIsInstance(first, bool)
                    if word.startswith("judge_"):
                        self.assertIsInstance(first, (tuple, type(None)))

    def test_any_value(self):
        # Each function that is passed any value, always as its last argument.
        for name, calls in CALLS.items():
            module = importlib.import_module(f"boneways.{name}")
            words = [word for word in calls if word.startswith("judge_")
                     or word in ("is_cell", "is_picture", "is_lot", "is_change", "is_rule", "is_condition", "is_deed")]
            for word in words:
                if word == "judge_struck":
                    continue
                for value in ODD_VALUES:
                    told = getattr(module, word)(*calls[word][:-1], value)
                    self.assertIsInstance(told, bool if word.startswith("is_") else (tuple, type(None)))

    def test_lists_may_be_tuples(self):
        for name, word in (("pictures", "picture_of"), ("lots", "hands_left"), ("lots", "safe_hands"),
                           ("lots", "first_clash"), ("boxes", "picture_of_boxes"), ("boxes", "picture_of_diamonds"),
                           ("deeds", "log_text")):
            told, passed = getattr(importlib.import_module(f"boneways.{name}"), word), CALLS[name][word]
            self.assertEqual(told(*passed[:-1], tuple(passed[-1])), told(*passed))

    def test_houses_and_desks(self):
        for picture in (RING, (), united(BAR, ((9, 9),))):
            house, desk = House(picture), Desk(picture)
            for ask in (house.board, house.picture, house.deeds, house.counts, house.kept, house.torn, house.simple,
                        house.addable, house.letters):
                first, second = ask(), ask()
                self.assertEqual(repr(first), repr(second))
                self.assertEqual(containers(first) & containers((house.standing, second)), set())
            for line in ("picture", "cells", "simple", "addable", "log", "counts", "kept", "torn"):
                self.assertEqual(desk.say(line), desk.say(line))
            self.assertEqual(house.board(), new_board(picture))


if __name__ == "__main__":
    unittest.main()
