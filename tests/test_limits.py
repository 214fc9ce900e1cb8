"""Points 1.7, 2.7, 3.6, 4.7, 5.7, 6.7, 7.7, 8.6, 9.7, 10.7, 11.8, 12.5, 13.7 and 14.5: the greatest callers pass.

It is answered, and soon.
"""

import random
import time
import unittest

from boneways.boxes import (
    box_cells, fewest_boxes, greatest_boxes, greatest_diamonds, judge_boxes, kept_boxes, needed_boxes, picture_of_boxes,
    picture_of_diamonds, ridge)
from boneways.changes import (
    behind_row, contrary, least_changes, near_pictures, pictures_of, shrink_by, shrink_row, shrunk, two_led)
from boneways.deeds import log_text, read_log
from boneways.desk import Desk
from boneways.house import House
from boneways.judging import (
    bad_lots, blocked_by, faults_in, is_safe, judge_fault, judge_judgement, judgement, least_fault, safe_within)
from boneways.kept import (
    board_pictures, done, effect, first_torn, is_kept, near_deed, new_board, redone, simple_now, span_of, undone)
from boneways.lots import (
    all_simple_free, first_clash, free_fault, free_within, hands_left, is_free, judge_bad, judge_most, judge_order,
    least_bads, order_of, safe_hands)
from boneways.moves import free_way, judge_led, led, line_up
from boneways.pages import (
    compare, judge_book, letters_of, lines_of, near_names, patched, put_glyph, read_page, set_line, turned_names)
from boneways.pictures import (
    at_home, box_of, least_pose, mirrored, picture_of, pose_between, posed, shifted, unblown, within_box)
from boneways.pieces import euler, holes, judge_holes, judge_pieces, pieces, place_of
from boneways.rims import is_outer, judge_rims, picture_of_rims, rim_about, rim_area, rim_of_piece, rims, rims_of_piece
from boneways.rules import alike_rules, codes_of, entries_of, judge_rule, made_rule, narrowed, refined, turned_rule
from boneways.ruletexts import read_rule, rule_text
from boneways.runs import (
    bones, end_cells, ends, is_bare, judge_ends, judge_run, kept_till, lost_end, rounds_of, run_behind, run_to, strikes)
from boneways.shapes import judge_renaming, least_shape, renaming, shape
from boneways.simple import addable, all_changes, changed, judge_changes, judge_struck, keeps, simple_cells
from boneways.sizes import closed_by, greatest_size, grown_by, opened_by, shrunk_by, sizes_told
from boneways.texts import cells_text, picture_text, read_cells, read_picture
from boneways.tree import around, form_of, judge_match, matched, nodes
from boneways.turning import least_turns, mirrored_rim, rim_from, shifted_rim, turn_word, turned_rim
from boneways.webs import cells_of_web, is_thin, judge_web, loops, sides, squares, ties, web_of

SECONDS = 20


def greatest_pictures():
    """Pictures of four hundred cells within sixty by sixty, far from 0, 0."""
    chance = random.Random(1)
    cells = [(x, y) for x in range(60) for y in range(60)]
    thin = chance.sample(cells, 400)
    dense = chance.sample([cell for cell in cells if cell[0] < 22 and cell[1] < 22], 400)
    block = [cell for cell in cells if cell[0] < 20 and cell[1] < 20]
    comb = [(x, y) for x, y in cells if y == 0 or x % 10 == 5][:400]
    return [shifted(picture_of(lot), -999999, 999940) for lot in (thin, dense, block, comb)]


class Sizes(unittest.TestCase):
    def setUp(self):
        self.begun = time.monotonic()

    def tearDown(self):
        self.assertLess(time.monotonic() - self.begun, SECONDS)

    def test_pictures_and_texts(self):
        chance = random.Random(2)
        wide = picture_of([(chance.randrange(1 - 10 ** 9, 10 ** 9), chance.randrange(10 ** 9)) for _ in range(400)])
        self.assertEqual(pose_between(wide, posed(wide, 7)), (7, 0, 0))
        self.assertEqual(least_pose(wide), least_pose(posed(wide, 3)))
        self.assertIsNone(unblown(wide, 2))
        self.assertEqual(euler(wide), len(pieces(wide)))
        self.assertEqual(read_cells(cells_text(wide)), wide)
        for picture in greatest_pictures():
            self.assertEqual(read_picture(picture_text(picture)), picture)
            x0, y0, x1, y1 = box_of(picture)
            self.assertEqual(len(within_box(picture)) + 400, (x1 - x0 + 1) * (y1 - y0 + 1))

    def test_pieces_and_trees(self):
        for picture in greatest_pictures():
            other = posed(picture, 6)
            self.assertIsNone(judge_pieces(picture, pieces(picture)))
            self.assertIsNone(judge_holes(picture, holes(picture)))
            self.assertIsNone(judge_match(picture, other, matched(picture, other)))
            self.assertEqual(len(nodes(picture)), len(pieces(picture)) + len(holes(picture)))
            for cell in picture[::40]:
                self.assertEqual(around(picture, cell)[0], place_of(picture, cell))

    def test_striking_and_changes(self):
        chance = random.Random(3)
        for start in greatest_pictures():
            lot = tuple(sorted(chance.sample(start, 60)))
            self.assertEqual(keeps(start, lot), judge_struck(start, lot) is None)
            self.assertEqual(keeps(start, lot), order_of(start, lot) is not None)
            picture, row = start, []
            for _ in range(20):
                row.append(chance.choice(all_changes(picture)))
                picture = changed(picture, row[-1])
            row += [(cell, 1 - kind) for cell, kind in reversed(row)]
            self.assertIsNone(judge_changes(start, row * 5))
            self.assertEqual(form_of(picture), form_of(start))
            self.assertEqual(len(all_changes(picture)), len(simple_cells(picture)) + len(addable(picture)))

    def test_lots_and_hands(self):
        chance = random.Random(4)
        for picture in greatest_pictures():
            lot = tuple(sorted(chance.sample(picture, 40)))
            self.assertEqual(is_free(picture, lot), least_bads(picture, lot) == ())
            self.assertIsNone(judge_most(picture, lot, free_within(picture, lot, lot[::-1])))
            free = all_simple_free(picture)
            self.assertIsNone(free_fault(picture, free))
            self.assertIsNone(judge_order(picture, free[:40], free[:40][::-1]))
            for bad in least_bads(picture, lot[:10]):
                self.assertIsNone(judge_bad(picture, lot, bad))
            hands = [free[k::8] for k in range(8)]
            self.assertIs(safe_hands(picture, hands), True)
            self.assertIsNone(first_clash(picture, hands))
            self.assertEqual(len(hands_left(picture, hands)), len(picture) - len(free))

    def test_rules(self):
        many = ("both", (("runs", 0, 8),) * 99 + (("either", (("simple",), ("some turn", ("black", 1)))),) * 25)
        self.assertEqual(judge_rule((3, 3, ((codes_of(many),) * 9,) * 8)), None)
        rule = made_rule(3, 3, ((many,) * 9,) * 2)
        self.assertEqual(narrowed(rule, many), rule)
        full = (3, 3, ((tuple(range(256)),) * 9,) * 8)
        for k in range(4):
            self.assertEqual(turned_rule(full, k), full)
        self.assertIs(alike_rules(full, refined((1, 1, ((tuple(range(256)),),) * 8), 3, 3)), True)

    def test_judging(self):
        full = (3, 3, ((tuple(range(256)),) * 9,) * 4)
        self.assertEqual(read_rule(rule_text(full)), full)
        self.assertEqual(len(faults_in(full)), 4 * len(bad_lots(3, 3)))
        chance = random.Random(5)
        order = tuple((chance.randrange(4), chance.randrange(9), chance.randrange(256)) for _ in range(2000))
        safe = safe_within(full, order)
        self.assertIs(is_safe(safe), True)
        self.assertIsNone(judge_judgement(safe, judgement(safe)))
        self.assertIsNone(judge_judgement(full, ("fault", least_fault(full))))
        for k, code in entries_of(full, 3)[::97]:
            if (k, code) not in entries_of(safe, 3):
                self.assertIn((k, code), blocked_by(full, safe, 3, k, code))
        for picture in greatest_pictures():
            self.assertIsNone(judge_fault(full, (3, picture, picture)))
            self.assertEqual(judge_fault(safe, (0, strikes(safe, 0, picture), picture)), ("keeps",))

    def test_runs(self):
        rule = safe_within((3, 3, ((tuple(range(256)),) * 9,) * 8), ())
        chance = random.Random(6)
        cells = [(x, y) for x in range(60) for y in range(60)]
        lots = (cells[:60], chance.sample(cells[:600], 60), [cell for cell in cells if max(cell) < 8][:60])
        for picture in [shifted(picture_of(lot), -10 ** 6, 10 ** 6 - 60) for lot in lots]:
            run = ()
            for p in list(range(8)) * 8:
                left = run_behind(picture, run)
                run += ((p, strikes(rule, p, left)[::2]),)
            self.assertIsNone(judge_run(rule, picture, run))
            self.assertIsNone(kept_till(picture, run))
            self.assertIs(is_bare(rule, bones(rule, picture)), True)
            self.assertLessEqual(len(rounds_of(rule, picture)), 60)
            self.assertLessEqual(len(end_cells(picture)), 60)
        self.assertEqual(lost_end(rule) is None, all(code not in table for tables in rule[2] for table in tables
                                                     for code in (0, 1, 2, 4, 8, 16, 32, 64, 128)))

    def test_ends(self):
        chance = random.Random(7)
        for share in (0.3, 0.9, 1):
            rule = (1, 1, tuple((tuple(code for code in range(256) if chance.random() < share),) for _ in range(8)))
            for picture in (picture_of([(x, y) for x in range(4) for y in range(3)][:10]),
                            tuple((x, 10 ** 6) for x in range(10))):
                told = ends(rule, picture)
                self.assertIsNone(judge_ends(rule, picture, told))
                for end in told[:5] + told[-5:]:
                    self.assertEqual(run_behind(picture, run_to(rule, picture, end)), end)

    def test_webs(self):
        chance = random.Random(8)
        cells = [(x, y) for x in range(60) for y in range(60)]
        lots = [cells[:60], chance.sample(cells[:900:3], 60), [(x, (x * x) % 60) for x in range(60)],
                [(x, y) for x, y in cells if x < 13 and y < 7 and (x % 2 == 0 or y % 2 == 0)][:60]]
        for lot in lots:
            picture = shifted(picture_of(lot), 10 ** 6 - 60, -10 ** 6)
            self.assertEqual(len(picture) - len(ties(picture)) + len(squares(picture)), euler(picture))
            self.assertIs(is_thin(picture), True)
            web = web_of(picture)
            self.assertIsNone(judge_web(picture, web))
            self.assertEqual((cells_of_web(web), loops(web)), (picture, len(holes(picture))))
            self.assertEqual(len([sides(picture, way) for way in web[1]]), len(web[1]))

    def test_shapes(self):
        chance = random.Random(9)
        ways = [tuple(sorted(chance.sample(range(7), 2))) + (chance.randrange(10 ** 6), 10 ** 6) for _ in range(30)]
        one = (7, tuple(sorted(ways + [(6, 6, 1, 1), (6, 6, 1, 1)])))
        numbers = chance.sample(range(7), 7)
        other = (7, tuple(sorted(tuple(sorted((numbers[i], numbers[j]))) + (m, n) for i, j, m, n in one[1])))
        for measured in (0, 1):
            self.assertIsNone(judge_renaming(one, other, measured, renaming(one, other, measured)))
            self.assertEqual(least_shape(one, measured), least_shape(other, measured))
        self.assertIsNone(renaming(one, (7, one[1][:-1] + ((6, 6, 1, 2),)), 1))
        self.assertEqual(shape(web_of(tuple((2 * x, 0) for x in range(60)))), (60, ()))

    def test_boxes_and_sizes(self):
        chance = random.Random(10)
        cells = [(x, y) for x in range(40) for y in range(40)]
        lots = (cells[:400], chance.sample(cells, 400), chance.sample([c for c in cells if max(c) < 21], 400),
                [cell for cell in cells if max(cell) < 20])
        for lot in lots:
            picture = shifted(picture_of(lot), 10 ** 9 - 40, -10 ** 9 + 1)
            boxes = greatest_boxes(picture)
            self.assertIsNone(judge_boxes(picture, boxes))
            self.assertEqual(picture_of_boxes(boxes), picture)
            self.assertEqual(picture_of_diamonds(greatest_diamonds(picture)), picture)
            kept = kept_boxes(picture, boxes[::-1])
            self.assertEqual(picture_of_boxes(kept), picture)
            self.assertLessEqual(set(needed_boxes(picture)), set(kept))
            self.assertEqual(len(ridge(picture)), len(boxes))
            self.assertEqual(len(sizes_told(picture)), greatest_size(picture))
            self.assertEqual(shrunk_by(grown_by(picture, 40), 40), closed_by(picture, 40))
            self.assertEqual(opened_by(picture, 40), ())
            if len(boxes) <= 12:
                self.assertEqual(picture_of_boxes(fewest_boxes(picture)), picture)
        every = [(cell, 40) for cell in lots[1]]
        self.assertEqual(picture_of_boxes(every), grown_by(picture_of(lots[1]), 39))
        self.assertEqual(picture_of_boxes(every[:1]), box_cells(every[0]))

    def test_rims(self):
        chance = random.Random(11)
        cells = [(x, y) for x in range(40) for y in range(40)]
        board = [(x, y) for x, y in cells if x < 28 and y < 28 and (x + y) % 2 == 0]
        lots = (cells[:400], chance.sample(cells, 400), chance.sample([c for c in cells if max(c) < 24], 400), board)
        for lot in lots:
            picture = shifted(picture_of(lot), 10 ** 9 - 40, -10 ** 9 + 1)
            told = rims(picture)
            self.assertIsNone(judge_rims(told))
            self.assertEqual(picture_of_rims(told), picture)
            self.assertEqual(len([rim for rim in told if is_outer(rim)]), len(pieces(picture)))
            for k in range(0, len(told), 40):
                self.assertEqual(rim_about(picture, k) is None, is_outer(told[k]) and place_of(
                    picture, (told[k][0][0] - 1, told[k][0][1])) == ("outside",))
            self.assertIn(rim_of_piece(picture, picture[0]), rims_of_piece(picture, picture[0]))
        great = ((0, 0), (0,) * 500 + (1,) * 500 + (2,) * 500 + (3,) * 500)
        self.assertIsNone(judge_rims((great,)))
        self.assertEqual(rim_area(great), 250000)

    def test_turning(self):
        chance = random.Random(12)
        cells = [(x, y) for x in range(40) for y in range(40)]
        comb = [(x, y) for x, y in cells if y == 0 or x % 4 == 0][:400]
        for lot in (comb, chance.sample([c for c in cells if max(c) < 24], 400)):
            picture = shifted(picture_of(lot), 10 ** 9 - 40, -10 ** 9 + 1)
            told = rims(picture)
            self.assertEqual(rims(mirrored(picture)),
                             tuple(sorted(shifted_rim(mirrored_rim(rim), 1, 0) for rim in told)))
            for corner, word in told:
                rim = (corner, word)
                self.assertEqual(rim_from(corner, word[0], turn_word(rim)), rim)
                self.assertEqual(least_turns(turned_rim(rim)), least_turns(rim))
        great = ((0, 0), (0,) * 500 + (1,) * 500 + (2,) * 500 + (3,) * 500)
        self.assertEqual(least_turns(great), ((0,) * 499 + (1,)) * 4)

    def test_rows(self):
        chance = random.Random(13)
        for picture in greatest_pictures():
            row = shrink_row(picture)
            self.assertEqual(behind_row(picture, row), shrunk(picture))
            black, long_row = dict.fromkeys(picture, 1), []
            while len(long_row) < 10000:
                x, y = chance.choice(picture)
                cell = (x + chance.randrange(-2, 3), y + chance.randrange(-2, 3))
                change = (cell, 0 if cell in black else 1)
                if judge_changes(tuple(black), [change]) is None:
                    long_row.append(change)
                    if change[1]:
                        black[cell] = 1
                    else:
                        del black[cell]
                # Looked for slowly, and told over and over: a row may come again and again.
                if len(long_row) == 250:
                    back = [(cell, 1 - kind) for cell, kind in reversed(long_row)]
                    long_row = (long_row + back) * 20
            row = tuple(long_row)
            self.assertEqual(pictures_of(picture, row)[-1], behind_row(picture, row))
            self.assertEqual(two_led(row, row[:9990]), contrary(row[9990:]))
            self.assertIsNone(judge_led(picture, behind_row(picture, row), row))

    def test_moves(self):
        chance = random.Random(14)
        cells = [(x, y) for x in range(30) for y in range(30)]
        dots = [(x, y) for x, y in cells if x < 27 and x % 2 == 0 and y % 2 == 0]
        lots = [picture_of(chance.sample(dots, 40)) for _ in range(4)] + [tuple(dots[:40])]
        for picture in lots:
            other = shifted(posed(chance.choice(lots), 4), 28, 0)
            self.assertEqual(behind_row(picture, line_up(picture, 29)), tuple((29 + 2 * k, 0) for k in range(40)))
            far, there = shifted(picture, -999999, 999960), shifted(other, -999999, 999960)
            self.assertIsNone(judge_led(far, there, led(far, there)))
            order = tuple(chance.sample(cells, 900))
            self.assertEqual(shrink_by(picture, order), ())
        blot = tuple(cells[:30] + cells[31:41])
        self.assertEqual(len(shrink_by(blot, tuple(chance.sample(cells, 900)))), 39)
        self.assertIsNone(judge_led(blot, blot[:1], led(blot, blot[:1])))
        # Walls with a gap below and above by turns.
        walls = tuple((x, y) for x, y in cells if x % 8 == 2 and y > 2 or x % 8 == 6 and y < 27)
        way = free_way(picture_of(walls + ((29, 29),)), (29, 29), (0, 0), (0, 0, 29, 29))
        self.assertGreater(len(way), 180)

    def test_around(self):
        chance = random.Random(15)
        small = [(x, y) for x in range(4) for y in range(4)]
        for _ in range(5):
            picture = shifted(picture_of(chance.sample(small, 8)), 10 ** 5, -10 ** 5)
            self.assertIn(picture, near_pictures(picture, 3))
        wide = [(x, y) for x in range(6) for y in range(6)]
        for _ in range(40):
            one = picture_of(chance.sample(wide, 6))
            near = chance.choice(near_pictures(one, 2))
            self.assertLessEqual(least_changes(one, near, 4), 2)
            least_changes(one, picture_of(chance.sample(wide, 6)), 4)

    def test_boards(self):
        chance = random.Random(16)
        cells = [(x, y) for x in range(100) for y in range(100)]
        for lot in (chance.sample(cells, 400), [c for c in cells if max(c) < 20], [c for c in cells if c[0] > 95]):
            board = new_board(picture_of(lot))
            for k in range(200):
                picture = board["picture"]
                deed = ("shift", 10 ** 6, -10 ** 6) if k % 10 == 9 else ("strike", chance.choice(picture))
                self.assertEqual(effect(board, deed)[2], done(board, deed)["euler"] - board["euler"])
                board = done(board, deed)
            self.assertEqual(is_kept(board), first_torn(board) is None)
            self.assertEqual(board_pictures(board)[0], picture_of(lot))
            self.assertEqual(board["euler"], euler(board["picture"]))
            self.assertEqual(len(near_deed(board, ("strike", board["picture"][0]))), 9)
            self.assertLessEqual(len(simple_now(board)), 400)
            for _ in range(200):
                board = undone(board)
            self.assertEqual((board["picture"], span_of(board)), (picture_of(lot), box_of(picture_of(lot))))
            for _ in range(200):
                board = redone(board)
            self.assertEqual(len(board["log"]), 200)

    def test_pages(self):
        chance = random.Random(17)
        names = "abcdefghijklmnopqrstuvwxyz"
        # Glyphs of sixty cells: bars bent at each place, rings, and long slopes.
        glyphs = [tuple((x, 0) for x in range(k)) + tuple((k, y) for y in range(60 - k)) for k in range(1, 24)]
        glyphs += [tuple((k, k) for k in range(60)), tuple((k, k // 2) for k in range(60)),
                   picture_of([(x, y) for x in range(16) for y in range(16) if x in (0, 15) or y in (0, 15)])]
        book = tuple(zip(names, glyphs))
        self.assertIsNone(judge_book(book))
        for name, glyph in book:
            self.assertIn((name, 0), turned_names(book, glyph))
            self.assertEqual(near_names(book, glyph)[0], name)
        text = "".join(chance.choice(names + " ") for _ in range(40))
        page = set_line(book, text, 20)
        self.assertEqual(read_page(book, page), [text.replace(" ", "")])
        cells = [(x, y) for x in range(200) for y in range(200)]
        pages = [picture_of(chance.sample(cells, 600)) for _ in range(2)] + [tuple(cells[:600]), tuple(cells[:1200:2])]
        for one in pages:
            self.assertEqual(sum(len(line) for line in lines_of(one)), len(letters_of(one)))
            back = ()
            for place, glyph in letters_of(one):
                back = put_glyph(back, place, glyph)
            self.assertEqual(back, one)
            for other in pages:
                told = compare(one, other)
                self.assertEqual(patched(one, told[1], told[2]), other)

    def test_houses_and_desks(self):
        chance = random.Random(18)
        cells = [(x, y) for x in range(100) for y in range(100)]
        for lot in (chance.sample(cells, 400), [cell for cell in cells if max(cell) < 20]):
            desk = Desk(picture_of(lot))
            house = desk.house()
            for _ in range(60):
                self.assertIn(desk.say("blot " + cells_text((chance.choice(cells),))), ("0", "1"))
                desk.say("strike " + cells_text((chance.choice(house.picture()),)))
                self.assertEqual(house.kept(), house.torn() is None)
                self.assertEqual(house.counts()[0] - house.counts()[1], house.board()["euler"])
                self.assertEqual(desk.say("cells"), cells_text(house.picture()))
            self.assertEqual(read_picture(desk.say("picture")), house.picture())
            self.assertEqual(read_log(desk.say("log")), house.deeds())
            self.assertEqual(desk.say("simple"), cells_text(house.simple()))
            self.assertEqual(len(read_cells(desk.say("addable"))), len(house.addable()))
            self.assertEqual(House(house.picture()).letters(), letters_of(house.picture()))
            many = len(house.deeds())
            self.assertEqual([desk.say("undo") for _ in range(many)], [str(k) for k in range(many)][::-1])
            self.assertEqual((desk.say("undo"), house.picture()), ("refused", picture_of(lot)))
        blot = tuple(chance.sample(cells, 200))
        self.assertEqual(House(()).blot(blot), 200)
        far = 10 ** 60 - 1
        log = tuple(("shift", far, -far) for _ in range(60))
        self.assertEqual(read_log(log_text(log)), log)
        self.assertLessEqual(len(log_text(log)), 8000)


if __name__ == "__main__":
    unittest.main()
