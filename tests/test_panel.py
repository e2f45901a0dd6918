"""panel, panelholes, find: calls 14 to 16, and the answer -4 of hole and load."""

import unittest

from drillrounds.holes import add_hole
from drillrounds.state import Board
from support import (BOARD, DROP, FAR, FIND, HOLE, HOLES, LENGTH, ORDER, PANEL, PANELHOLES, PANELPROGRAM, SEEN,
                     ask, ask_last, check_of, drilled, flat, load_of, on_a_line, set_to, written)

# A board of 10 by 20 with two holes, in a panel of 2 columns and 3 rows.
TWO = [[BOARD, 10, 20, 0], *drilled((1, 2, 5), (10, 0, 3))]

# (x, y, d), column, row, number, with px = 11 and py = 30; worked out one by one.
UPRIGHT = (
    ((1, 2, 5), 0, 0, 0), ((10, 0, 3), 0, 0, 1), ((12, 2, 5), 1, 0, 0), ((21, 0, 3), 1, 0, 1),
    ((1, 32, 5), 0, 1, 0), ((10, 30, 3), 0, 1, 1), ((12, 32, 5), 1, 1, 0), ((21, 30, 3), 1, 1, 1),
    ((1, 62, 5), 0, 2, 0), ((10, 60, 3), 0, 2, 1), ((12, 62, 5), 1, 2, 0), ((21, 60, 3), 1, 2, 1),
)
# The copies (1, 0), (0, 1) and (1, 2) are turned: (1, 2) lies at (9, 18) in them, (10, 0) at (0, 20).
TURNED = (
    ((1, 2, 5), 0, 0, 0), ((10, 0, 3), 0, 0, 1), ((20, 18, 5), 1, 0, 0), ((11, 20, 3), 1, 0, 1),
    ((9, 48, 5), 0, 1, 0), ((0, 50, 3), 0, 1, 1), ((12, 32, 5), 1, 1, 0), ((21, 30, 3), 1, 1, 1),
    ((1, 62, 5), 0, 2, 0), ((10, 60, 3), 0, 2, 1), ((20, 78, 5), 1, 2, 0), ((11, 80, 3), 1, 2, 1),
)
PANELS = ((0, UPRIGHT), (1, TURNED))


class PanelCall(unittest.TestCase):
    def test_answers_0(self):
        self.assertEqual(ask([PANEL, 2, 3, 1001, 1001, 0]), [[0]])

    def test_least_and_greatest(self):
        for columns in (1, 16):
            for rows in (1, 16):
                for alt in (0, 1):
                    self.assertEqual(ask_last([BOARD, 10, 20, 0], [PANEL, columns, rows, 11, 21, alt]), [0])
        for px in (11, 1000000000):
            for py in (21, 1000000000):
                self.assertEqual(ask_last([BOARD, 10, 20, 0], [PANEL, 1, 1, px, py, 0]), [0])

    def test_one_beyond_each_and_far_beyond(self):
        wrong = [[columns, 1, 11, 21, 0] for columns in (0, -1, 17, FAR, -FAR)]
        wrong += [[1, rows, 11, 21, 0] for rows in (0, -1, 17, FAR, -FAR)]
        wrong += [[1, 1, px, 21, 0] for px in (10, 0, -11, 1000000001, FAR, -FAR)]
        wrong += [[1, 1, 11, py, 0] for py in (20, 0, -21, 1000000001, FAR, -FAR)]
        wrong += [[1, 1, 11, 21, alt] for alt in (-1, 2, FAR, -FAR)]
        for arguments in wrong:
            self.assertEqual(ask_last([BOARD, 10, 20, 0], [PANEL, *arguments]), [-1], arguments)

    def test_the_board_at_the_beginning_is_1000_by_1000(self):
        self.assertEqual(ask([PANEL, 1, 1, 1000, 1001, 0], [PANEL, 1, 1, 1001, 1000, 0], [PANEL, 1, 1, 1001, 1001, 0]),
                         [[-1], [-1], [0]])

    def test_the_greatest_board(self):
        self.assertEqual(ask([BOARD, 999999999, 999999999, 0], [PANEL, 1, 1, 1000000000, 1000000000, 1],
                             [PANEL, 1, 1, 999999999, 1000000000, 1], [PANEL, 2, 1, 1000000000, 1000000000, 1],
                             [HOLE, 999999999, 0, 1], [PANELHOLES])[1:],
                         [[0], [-1], [-2], [0], [1, 999999999, 0, 1]])

    def test_too_wide_or_too_high(self):
        for count, step in ((2, 500000000), (16, 62500000), (10, 100000000)):
            self.assertEqual(ask([PANEL, count, 1, step, 1001, 0], [PANEL, count, 1, step + 1, 1001, 0],
                                 [PANEL, 1, count, 1001, step, 0], [PANEL, 1, count, 1001, step + 1, 0],
                                 [PANEL, count, 1, 1001, step + 1, 0], [PANEL, 1, count, step + 1, 1001, 0]),
                             [[0], [-2], [0], [-2], [0], [0]])

    def test_at_most_512_holes(self):
        self.assertEqual(ask(*on_a_line(1, 2), [PANEL, 16, 16, 1001, 1001, 0], [HOLE, 3, 0, 1])[2:], [[0], [-4]])
        self.assertEqual(ask(*on_a_line(1, 2, 3), [PANEL, 16, 16, 1001, 1001, 0], [PANEL, 16, 10, 1001, 1001, 0],
                             [PANEL, 10, 16, 1001, 1001, 0])[3:], [[-4], [0], [0]])
        # 19 times 9 times 3 are 513, 18 times 27 are 486, 48 times 10 are 480 and 48 times 11 are 528.
        self.assertEqual(ask_last(*on_a_line(*range(19)), [PANEL, 9, 3, 1001, 1001, 0]), [-4])
        self.assertEqual(ask_last(*on_a_line(*range(18)), [PANEL, 9, 3, 1001, 1001, 0]), [0])
        self.assertEqual(ask(*on_a_line(*range(48)), [PANEL, 5, 2, 1001, 1001, 0], [PANEL, 11, 1, 1001, 1001, 0])[48:],
                         [[0], [-4]])

    def test_which_refusal_is_told_first(self):
        three = on_a_line(1, 2, 3)
        far = 1000000000
        # Too large and too full, and something out of range besides.
        for arguments in ((17, 16, far, far, 0), (16, 17, far, far, 0), (16, 16, 1000, far, 0),
                          (16, 16, far, 1000, 0), (16, 16, far + 1, far, 0), (16, 16, far, far + 1, 0),
                          (16, 16, far, far, 2), (16, 16, far, far, -1)):
            self.assertEqual(ask_last(*three, [PANEL, *arguments]), [-1], arguments)
        self.assertEqual(ask_last(*three, [PANEL, 16, 16, far, 1001, 0]), [-2])
        self.assertEqual(ask_last(*three, [PANEL, 16, 16, 1001, far, 0]), [-2])
        self.assertEqual(ask_last(*three, [PANEL, 16, 16, 1001, 1001, 0]), [-4])

    def test_a_refusal_changes_nothing(self):
        kept = [*TWO, set_to(1, 0), [PANEL, 2, 3, 11, 30, 0]]
        probes = (*SEEN, [PANELHOLES], [PANELPROGRAM])
        seen = ask(*kept, *probes)[5:]
        self.assertEqual(seen[4], flat([hole[0] for hole in UPRIGHT]))
        for arguments, refusal in (((17, 1, 11, 21, 1), -1), ((1, 1, 10, 21, 1), -1), ((1, 1, 11, 21, 2), -1),
                                   ((16, 1, 1000000000, 21, 1), -2), ((1, 16, 11, 1000000000, 1), -2)):
            self.assertEqual(ask(*kept, [PANEL, *arguments], *probes)[5:], [[refusal], *seen], arguments)
        full = [*on_a_line(1, 2, 3), [PANEL, 2, 1, 1001, 1001, 0]]
        self.assertEqual(ask(*full, [PANEL, 16, 16, 1002, 1002, 1], *probes)[5:], ask(*full, *probes)[4:])

    def test_it_changes_neither_holes_nor_order(self):
        kept = [*TWO, set_to(1, 0)]
        self.assertEqual(ask(*kept, [PANEL, 2, 3, 11, 30, 1], *SEEN)[5:], ask(*kept, *SEEN)[4:])

    def test_a_panel_takes_the_place_of_the_one_before(self):
        self.assertEqual(ask(*TWO, [PANEL, 16, 16, 11, 30, 1], [PANEL, 1, 1, 99, 99, 0], [PANELHOLES],
                             [HOLE, 5, 5, 5])[3:], [[0], [0], [2, 1, 2, 5, 10, 0, 3], [2]])


class TheNewPanel(unittest.TestCase):
    """px and py of one column and one row are seen in the panel's program alone."""

    def seen(self, *calls):
        return written(ask_last(*calls, [PANELPROGRAM]))

    def test_at_the_beginning(self):
        self.assertEqual(ask([HOLE, 4, 5, 6], [PANELHOLES])[1:], [[1, 4, 5, 6]])
        self.assertEqual(self.seen([HOLE, 4, 5, 6]), ["tool 6", "to 4 5", "rep 1", "rep 1", "here", "go 1001 0", "end",
                                                      "go -1001 1001", "end"])

    def test_with_each_new_board(self):
        kept = [*TWO, [PANEL, 2, 3, 11, 30, 1], [BOARD, 7, 9, 0], [HOLE, 4, 5, 6]]
        self.assertEqual(ask(*kept, [PANELHOLES], [FIND, 4, 5], [FIND, 12, 5], [FIND, 4, 15])[6:],
                         [[1, 4, 5, 6], [1, 0, 0, 0], [0], [0]])
        self.assertEqual(self.seen(*kept), ["tool 6", "to 4 5", "rep 1", "rep 1", "here", "go 8 0", "end",
                                            "go -8 10", "end"])

    def test_a_refused_board_leaves_the_panel(self):
        for wrong in ((0, 9, 0), (9, 0, 0), (9, 9, -1)):
            self.assertEqual(ask_last(*TWO, [PANEL, 2, 3, 11, 30, 1], [BOARD, *wrong], [PANELHOLES]),
                             flat([hole[0] for hole in TURNED]))

    def test_drop_and_load_leave_the_panel(self):
        self.assertEqual(ask(*TWO, [PANEL, 2, 1, 12, 21, 1], [DROP, 1], [PANELHOLES], load_of(["tool 7", "here"]),
                             [PANELHOLES])[4:], [[1], [2, 1, 2, 5, 21, 18, 5], [1], [2, 0, 0, 7, 22, 20, 7]])

    def test_holes_as_many_as_may_be_on_a_new_board(self):
        self.assertEqual(ask(*on_a_line(1, 2), [PANEL, 16, 16, 1001, 1001, 0], [HOLE, 3, 0, 1], [BOARD, 9, 9, 0],
                             *on_a_line(1, 2, 3))[3:], [[-4], [0], [0], [1], [2]])


class HolesInThePanel(unittest.TestCase):
    def test_hole(self):
        self.assertEqual(ask([PANEL, 16, 16, 1001, 1001, 0], *on_a_line(1, 2, 3), [HOLES], [ORDER], [LENGTH])[1:],
                         [[0], [1], [-4], [2, 1, 0, 1, 2, 0, 1], [2, 0, 1], [4, 0]])

    def test_columns_and_rows_both_count(self):
        # Two holes are 480 of the panel, three would be 720.
        for columns, rows in ((16, 15), (15, 16)):
            self.assertEqual(ask([PANEL, columns, rows, 1001, 1001, 0], *on_a_line(1, 2, 3))[1:], [[0], [1], [-4]])

    def test_one_beyond_512(self):
        # 16 holes in 32 copies are 512; 19 holes in 27 copies would be 513.
        self.assertEqual(ask([PANEL, 8, 4, 1001, 1001, 0], *on_a_line(*range(17)))[15:], [[14], [15], [-4]])
        self.assertEqual(ask([PANEL, 9, 3, 1001, 1001, 0], *on_a_line(*range(19)))[17:], [[16], [17], [-4]])

    def test_after_a_drop_and_after_another_panel(self):
        self.assertEqual(ask([PANEL, 16, 16, 1001, 1001, 0], *on_a_line(1, 2, 3), [DROP, 0], *on_a_line(3, 4),
                             [PANEL, 16, 10, 1001, 1001, 0], *on_a_line(4, 5))[3:],
                         [[-4], [1], [1], [-4], [0], [2], [-4]])

    def test_hole_tells_it_last(self):
        full = [[PANEL, 16, 16, 1001, 1001, 0], *on_a_line(1, 2)]
        self.assertEqual(ask_last(*full, [HOLE, 1001, 0, 1]), [-1])
        self.assertEqual(ask_last(*full, [HOLE, 2, 0, 0]), [-1])
        self.assertEqual(ask_last(*full, [HOLE, 2, 0, 7]), [-2])
        self.assertEqual(ask_last(*full, [HOLE, 3, 0, 7]), [-4])

    def test_hole_tells_48_before_it(self):
        # No calls lead to 48 holes in more than 10 copies, so the board is handed its panel here.
        board = Board()
        for x in range(48):
            add_hole(board, x, 0, 1)
        board.columns = 11
        self.assertEqual(add_hole(board, 0, 1, 1), -3)

    def test_load(self):
        panel = [PANEL, 16, 16, 1001, 1001, 0]
        self.assertEqual(ask(panel, load_of(["tool 1", "run 2 1 0"]), load_of(["tool 1", "run 3 1 0"]), [HOLES]),
                         [[0], [2], [-4], [2, 1, 0, 1, 2, 0, 1]])
        panel = [PANEL, 9, 3, 1001, 1001, 0]
        self.assertEqual(ask(panel, load_of(["tool 1", "run 18 1 0"]), load_of(["tool 1", "run 19 1 0"])),
                         [[0], [18], [-4]])


class PanelHolesCall(unittest.TestCase):
    def test_without_holes(self):
        self.assertEqual(ask([PANELHOLES], [PANEL, 16, 16, 1001, 1001, 1], [PANELHOLES]), [[0], [0], [0]])

    def test_copy_by_copy(self):
        for alt, told in PANELS:
            self.assertEqual(ask_last(*TWO, [PANEL, 2, 3, 11, 30, alt], [PANELHOLES]),
                             flat([hole[0] for hole in told]))

    def test_by_their_numbers_whatever_the_order(self):
        for alt, told in PANELS:
            self.assertEqual(ask_last(*TWO, set_to(1, 0), [PANEL, 2, 3, 11, 30, alt], [PANELHOLES]),
                             flat([hole[0] for hole in told]))

    def test_alt_with_one_copy_turns_none(self):
        self.assertEqual(ask_last(*TWO, [PANEL, 1, 1, 11, 30, 1], [PANELHOLES]), [2, 1, 2, 5, 10, 0, 3])

    def test_512(self):
        answered = ask_last([HOLE, 0, 1, 2], [HOLE, 3, 4, 5], [PANEL, 16, 16, 2000, 3000, 0], [PANELHOLES])
        self.assertEqual(answered[:10], [512, 0, 1, 2, 3, 4, 5, 2000, 1, 2])
        self.assertEqual(answered[97:103], [0, 3001, 2, 3, 3004, 5])
        self.assertEqual(answered[-6:], [30000, 45001, 2, 30003, 45004, 5])
        self.assertEqual(len(answered), 1 + 3 * 512)

    def test_it_changes_nothing(self):
        kept = [*TWO, set_to(1, 0), [PANEL, 2, 3, 11, 30, 1]]
        probes = (*SEEN, [PANELHOLES], [FIND, 20, 18])
        self.assertEqual(ask(*kept, [PANELHOLES], *probes)[6:], ask(*kept, *probes)[5:])


class FindCall(unittest.TestCase):
    def test_each_hole(self):
        for alt, told in PANELS:
            kept = [*TWO, [PANEL, 2, 3, 11, 30, alt]]
            found = ask(*kept, *[[FIND, hole[0], hole[1]] for hole, *place in told])[4:]
            self.assertEqual(found, [[1, *place] for hole, *place in told])

    def test_each_point_around_them(self):
        for alt, told in PANELS:
            places = {hole[:2]: [1, *place] for hole, *place in told}
            for x in range(-13, 36):
                finds = [[FIND, x, y] for y in range(-35, 125)]
                self.assertEqual(ask(*TWO, [PANEL, 2, 3, 11, 30, alt], *finds)[4:],
                                 [places.get((x, y), [0]) for y in range(-35, 125)])

    def test_between_the_copies(self):
        # px is 15: x from 11 to 14 and from 26 on is on no copy. Turned, (0, 0) lies at (25, 20).
        kept = [[BOARD, 10, 20, 0], [HOLE, 0, 0, 1], [PANEL, 2, 1, 15, 25, 1]]
        finds = [[FIND, x, y] for x in range(-2, 32) for y in (0, 5, 20, 25)]
        places = {(0, 0): [1, 0, 0, 0], (25, 20): [1, 1, 0, 0]}
        self.assertEqual(ask(*kept, *finds)[3:], [places.get((x, y), [0]) for number, x, y in finds])

    def test_far_away(self):
        for alt in (0, 1):
            for x, y in ((FAR, FAR), (-FAR, -FAR), (FAR, 2), (1, FAR), (-FAR, 2), (1, -FAR), (1 - 11, 2), (1, 2 - 30),
                         (1 + 2 * 11, 2), (1, 2 + 3 * 30), (1 + 4 * 11, 2), (-10 + 1, 2), (-1, -2)):
                self.assertEqual(ask_last(*TWO, [PANEL, 2, 3, 11, 30, alt], [FIND, x, y]), [0], (x, y))

    def test_without_holes(self):
        self.assertEqual(ask([FIND, 0, 0], [FIND, -1, -1], [FIND, 1000, 1000]), [[0]] * 3)

    def test_at_the_beginning_there_is_one_copy(self):
        self.assertEqual(ask([HOLE, 0, 0, 1], [FIND, 0, 0], [FIND, 1001, 0], [FIND, 0, 1001], [FIND, -1001, 0])[1:],
                         [[1, 0, 0, 0], [0], [0], [0]])

    def test_the_next_calls_see_it(self):
        self.assertEqual(ask(*TWO, [PANEL, 2, 1, 11, 21, 0], [FIND, 21, 0], [DROP, 0], [FIND, 21, 0], [FIND, 1, 2],
                             [HOLE, 1, 2, 9], [FIND, 12, 2])[4:],
                         [[1, 1, 0, 1], [1], [1, 1, 0, 0], [0], [1], [1, 1, 0, 1]])

    def test_it_changes_nothing(self):
        kept = [*TWO, set_to(1, 0), [PANEL, 2, 3, 11, 30, 1]]
        probes = (*SEEN, [PANELHOLES], check_of(["tool 1"]))
        self.assertEqual(ask(*kept, [FIND, 20, 18], [FIND, 0, 0], *probes)[7:], ask(*kept, *probes)[5:])


if __name__ == "__main__":
    unittest.main()
