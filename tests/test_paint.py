"""Promise 2, dot and box; and how far a change goes on."""

import unittest

from tests.asking import HIGHEST, ask, box, dot, effect, last, numbers_differ, page, sheet


class DotTest(unittest.TestCase):
    def test_changed_without_sheets_behind(self):
        self.assertEqual(ask(page(2, 3), sheet(0), dot(0, 1, 2, 255), dot(0, 1, 2, 255), dot(0, 1, 2, 0)),
                         [[0], [0], [1, 0], [0, 0], [1, 0]])

    def test_just_that_cell(self):
        calls = [page(3, 2), sheet(0), dot(0, 2, 1, 7), dot(0, 1, 0, 9)]
        self.assertEqual(numbers_differ(calls, 0, 3, [[0, 9, 0], [0, 0, 7]]), [])

    def test_the_number_that_it_has_touches_nothing(self):
        self.assertEqual(ask(page(3, 3), sheet(0), sheet(3, 0), dot(0, 1, 1, 0), dot(0, 1, 1, 9), dot(0, 1, 1, 9))[3:],
                         [[0, 0], [1, 9], [0, 0]])

    def test_touched_through_several_sheets(self):
        # Soft touches 4 from a corner and changes them; soft of soft then touches 9 of the 3 by 3 cells.
        self.assertEqual(last(page(4, 4), sheet(0), sheet(3, 0), sheet(3, 1), sheet(2, 2), dot(0, 0, 0, 255)),
                         [1, 4 + 9 + 9])

    def test_touched_cells_that_stay_go_on_no_further(self):
        sheets = [page(2, 2), sheet(0), sheet(5, 0, 100), sheet(3, 1), sheet(2, 2)]
        self.assertEqual(last(*sheets, dot(0, 0, 0, 99)), [1, 1])
        self.assertEqual(last(*sheets, dot(0, 0, 0, 100)), [1, 1 + 4 + 4])
        self.assertEqual(last(*sheets, dot(0, 0, 0, 100), dot(0, 0, 0, 200)), [1, 1])

    def test_a_part_of_the_touched_cells_stays(self):
        # 4 in a corner is 1 in the mean of four cells and of six, 0 in that of nine.
        self.assertEqual(last(page(3, 3), sheet(0), sheet(3, 0), sheet(2, 1), dot(0, 0, 0, 4)), [1, 4 + 3])

    def test_a_masked_cell_needs_the_sheet_that_it_does_not_show(self):
        sheets = [page(2, 1), sheet(0), sheet(0), sheet(0), sheet(9, 0, 1, 2), sheet(2, 3)]
        self.assertEqual(last(*sheets, dot(0, 0, 0, 9)), [1, 1])
        self.assertEqual(last(*sheets, dot(1, 0, 0, 9)), [1, 2])
        self.assertEqual(last(*sheets, dot(2, 0, 0, 200)), [1, 1])
        self.assertEqual(last(*sheets, dot(1, 0, 0, 9), dot(2, 0, 0, 200)), [1, 2])

    def test_a_sheet_told_twice_touches_once(self):
        for kind in (6, 7, 8):
            self.assertEqual(last(sheet(0), sheet(kind, 0, 0), dot(0, 0, 0, 9)), [1, 1])
        self.assertEqual(last(sheet(0), sheet(9, 0, 0, 0), dot(0, 0, 0, 9)), [1, 1])

    def test_touched_by_two_ways_is_touched_once(self):
        self.assertEqual(last(sheet(0), sheet(2, 0), sheet(1, 0, 3), sheet(8, 1, 2), dot(0, 0, 0, 9)), [1, 3])

    def test_every_sheet_behind_that_needs_it(self):
        nine = [sheet(2, k) for k in range(9)]
        self.assertEqual(last(page(6, 6), sheet(0), *nine, dot(0, 5, 5, 1)), [1, 9])
        self.assertEqual(last(page(6, 6), sheet(0), *[sheet(3, 0)] * 9, dot(0, 3, 3, 1)), [1, 81])

    def test_moved_touches_the_cell_that_it_moves_to(self):
        calls = [page(3, 3), sheet(0), sheet(4, 0, 2, 1), dot(0, 2, 2, 50)]
        self.assertEqual(last(*calls), [1, 1])
        self.assertEqual(numbers_differ(calls, 1, 3, [[0, 50, 0], [0, 0, 0], [0, 0, 0]]), [])

    def test_sheets_that_do_not_need_it_and_sheets_ahead_are_not_touched(self):
        sheets = [page(2, 2), sheet(0), sheet(2, 0), sheet(0), sheet(2, 0), sheet(3, 2)]
        self.assertEqual(last(*sheets, dot(2, 0, 0, 9)), [1, 4])
        self.assertEqual(last(*sheets, dot(0, 0, 0, 9)), [1, 2])


class BoxTest(unittest.TestCase):
    def test_changed_and_touched(self):
        sheets = [page(4, 3), sheet(0), sheet(2, 0), sheet(3, 0)]
        self.assertEqual(last(*sheets, box(0, 0, 0, 2, 1, 200)), [2, 2 + 6])
        self.assertEqual(last(*sheets, box(0, 1, 1, 1, 1, 200)), [1, 1 + 9])
        self.assertEqual(last(*sheets, box(0, 0, 0, 4, 3, 200)), [12, 12 + 12])

    def test_just_these_cells(self):
        calls = [page(4, 3), sheet(0), box(0, 1, 1, 2, 2, 8)]
        self.assertEqual(numbers_differ(calls, 0, 4, [[0, 0, 0, 0], [0, 8, 8, 0], [0, 8, 8, 0]]), [])
        calls = [page(4, 3), sheet(0), box(0, 0, 0, 3, 1, 8), box(0, 3, 0, 1, 3, 9)]
        self.assertEqual(numbers_differ(calls, 0, 4, [[8, 8, 8, 9], [0, 0, 0, 9], [0, 0, 0, 9]]), [])

    def test_cells_that_have_the_number_do_not_count(self):
        sheets = [page(3, 3), sheet(0), sheet(2, 0), dot(0, 1, 1, 8)]
        self.assertEqual(ask(*sheets, box(0, 0, 0, 3, 3, 8), box(0, 0, 0, 3, 3, 8), box(0, 0, 0, 2, 2, 8))[4:],
                         [[8, 8], [0, 0], [0, 0]])

    def test_touched_cells_that_stay_go_on_no_further(self):
        sheets = [page(3, 1), sheet(0), sheet(5, 0, 50), sheet(2, 1), dot(0, 0, 0, 60)]
        self.assertEqual(last(*sheets, box(0, 0, 0, 3, 1, 70)), [3, 3 + 2])

    def test_partly_beyond_the_page(self):
        sheets = [page(3, 2), sheet(0), sheet(2, 0)]
        self.assertEqual(last(*sheets, box(0, 2, 1, 2, 2, 8)), [1, 1])
        self.assertEqual(last(*sheets, box(0, 1, 0, HIGHEST, HIGHEST, 8)), [4, 4])
        self.assertEqual(last(*sheets, box(0, 0, 1, HIGHEST, 1, 8)), [3, 3])
        self.assertEqual(numbers_differ([*sheets, box(0, 2, 0, 2, 1, 8)], 0, 3, [[0, 0, 8], [0, 0, 0]]), [])

    def test_wholly_beyond_the_page(self):
        sheets = [page(3, 2), sheet(0), sheet(2, 0)]
        for x, y in ((3, 0), (0, 2), (3, 2), (HIGHEST, 0), (0, HIGHEST), (HIGHEST, HIGHEST)):
            for side in (1, 6, HIGHEST):
                self.assertEqual(last(*sheets, box(0, x, y, side, side, 8)), [0, 0])

    def test_no_columns_or_no_rows(self):
        for u, v in ((0, 0), (0, 1), (1, 0), (0, HIGHEST), (HIGHEST, 0)):
            self.assertEqual(last(page(3, 2), sheet(0), sheet(2, 0), box(0, 1, 1, u, v, 8)), [0, 0])


class RefusedTest(unittest.TestCase):
    sheets = (page(3, 2), sheet(0), sheet(2, 0))

    def test_dot_each_alone(self):
        for call, answer in ((dot(0, 0, 0, 255), [1, 1]), (dot(0, 0, 0, 256), [-3]), (dot(0, 0, 0, HIGHEST), [-3]),
                             (dot(0, 2, 1, 9), [1, 1]), (dot(0, 3, 1, 9), [-1]), (dot(0, 2, 2, 9), [-1]),
                             (dot(0, HIGHEST, 0, 9), [-1]), (dot(0, 0, HIGHEST, 9), [-1]), (dot(0, 3, 0, 9), [-1]),
                             (dot(2, 0, 0, 9), [-2]), (dot(HIGHEST, 0, 0, 9), [-2]), (dot(1, 0, 0, 9), [-6])):
            self.assertEqual(last(*self.sheets, call), answer, call)

    def test_dot_several_together(self):
        for call, answer in ((dot(0, 3, 0, 256), [-3]), (dot(2, 0, 0, 256), [-3]), (dot(1, 0, 0, 256), [-3]),
                             (dot(2, 3, 0, 256), [-3]), (dot(1, 3, 0, 256), [-3]), (dot(2, 0, 2, 9), [-1]),
                             (dot(1, 0, 2, 9), [-1]), (dot(HIGHEST, HIGHEST, HIGHEST, HIGHEST), [-3])):
            self.assertEqual(last(*self.sheets, call), answer, call)

    def test_box_each_alone(self):
        for call, answer in ((box(0, 0, 0, 1, 1, 255), [1, 1]), (box(0, 0, 0, 1, 1, 256), [-3]),
                             (box(0, 0, 0, 1, 1, HIGHEST), [-3]), (box(2, 0, 0, 1, 1, 9), [-2]),
                             (box(HIGHEST, 0, 0, 1, 1, 9), [-2]), (box(1, 0, 0, 1, 1, 9), [-6])):
            self.assertEqual(last(*self.sheets, call), answer, call)

    def test_box_several_together(self):
        for call, answer in ((box(2, 0, 0, 1, 1, 256), [-3]), (box(1, 0, 0, 1, 1, 256), [-3]),
                             (box(0, 9, 9, 0, 0, 256), [-3])):
            self.assertEqual(last(*self.sheets, call), answer, call)

    def test_a_box_beyond_the_page_is_refused_all_the_same(self):
        for x, y, u, v in ((3, 0, 1, 1), (0, 2, 1, 1), (0, 0, 0, 0), (HIGHEST, HIGHEST, HIGHEST, HIGHEST)):
            for k, n, answer in ((0, 256, [-3]), (2, 9, [-2]), (1, 9, [-6]), (0, 9, [0, 0])):
                self.assertEqual(last(*self.sheets, box(k, x, y, u, v, n)), answer)

    def test_without_sheets(self):
        self.assertEqual(ask(dot(0, 0, 0, 9), box(0, 0, 0, 1, 1, 9), dot(0, 1, 0, 9), dot(0, 0, 0, 256)),
                         [[-2], [-2], [-1], [-3]])

    def test_a_sheet_is_painted_by_the_effect_that_it_has_now(self):
        answered = ask(*self.sheets, effect(1, 0), dot(1, 0, 0, 9), effect(1, 2, 0), dot(1, 0, 0, 9),
                       box(1, 0, 0, 1, 1, 9))
        self.assertEqual(answered[3:], [[0, 0], [1, 0], [1, 0], [-6], [-6]])

    def test_after_a_refusal_all_is_as_it_was(self):
        wrong = [dot(0, 0, 0, 256), dot(0, 3, 0, 9), dot(2, 0, 0, 9), dot(1, 0, 0, 9), box(0, 0, 0, 3, 2, 256),
                 box(2, 0, 0, 3, 2, 9), box(1, 0, 0, 3, 2, 9)]
        calls = [*self.sheets, dot(0, 1, 1, 100), *wrong]
        self.assertEqual(ask(*calls)[4:], [[-3], [-1], [-2], [-6], [-3], [-2], [-6]])
        self.assertEqual(numbers_differ(calls, 0, 3, [[0, 0, 0], [0, 100, 0]]), [])
        self.assertEqual(numbers_differ(calls, 1, 3, [[255, 255, 255], [255, 155, 255]]), [])
        self.assertEqual(ask(*calls, dot(0, 1, 1, 9), sheet(0))[11:], [[1, 1], [2]])


if __name__ == "__main__":
    unittest.main()
