"""Promise 3, cells and cell."""

import unittest

from tests.asking import HIGHEST, ask, box, cell, cells, dot, effect, last, list_sheets, page, sheet

# Sheets 0 to 2 are painted; what each effect makes of them on a page of 3 columns and 2 rows.
PAINTED = ([10, 200, 0, 20, 7, 255], [20, 0, 31, 20, 8, 254], [0, 128, 127, 255, 0, 200])

MADE = (
    ((1, 0, 60), [70, 255, 60, 80, 67, 255]),
    ((2, 1), [235, 255, 224, 235, 247, 1]),
    ((3, 0), [59, 82, 116, 59, 82, 116]),
    ((4, 0, 1, 0), [0, 10, 200, 255, 20, 7]),
    ((4, 0, 0, 1), [20, 7, 255, 10, 200, 0]),
    ((5, 0, 20), [0, 255, 0, 255, 0, 255]),
    ((6, 0, 1), [20, 200, 31, 20, 8, 255]),
    ((7, 0, 1), [15, 100, 16, 20, 8, 255]),
    ((8, 0, 1), [10, 200, 31, 0, 1, 1]),
    ((9, 0, 1, 2), [20, 200, 31, 20, 8, 255]),
)


def all_cells(k, wide, high):
    return [cell(k, x, y) for y in range(high) for x in range(wide)]


def dots(k):
    return [dot(k, c % 3, c // 3, PAINTED[k][c]) for c in range(6)]


class ToldTest(unittest.TestCase):
    def assert_told(self, calls, k, wide, numbers):
        """Both by cells at once and by cell one by one."""
        self.assertEqual(last(*calls, cells(k)), numbers)
        one_by_one = ask(*calls, *all_cells(k, wide, len(numbers) // wide))[len(calls):]
        self.assertEqual(one_by_one, [[number] for number in numbers])

    def test_painted_is_0_at_first(self):
        for wide in range(1, 7):
            self.assertEqual(last(page(wide, 4), sheet(0), cells(0)), [0] * wide * 4)
        self.assert_told([sheet(0)], 0, 1, [0])

    def test_in_the_cells_order(self):
        self.assert_told([page(2, 3), sheet(0), dot(0, 1, 0, 1), dot(0, 0, 1, 2), dot(0, 1, 2, 255)], 0, 2,
                         [0, 1, 2, 0, 0, 255])
        self.assert_told([page(3, 2), sheet(0), dot(0, 1, 0, 1), dot(0, 0, 1, 2), dot(0, 2, 1, 255)], 0, 3,
                         [0, 1, 0, 2, 0, 255])

    def test_the_greatest_page(self):
        numbers = [0] * 36
        numbers[6 * 4 + 5], numbers[35] = 9, 8
        calls = [page(6, 6), sheet(0), dot(0, 5, 4, 9), dot(0, 5, 5, 8)]
        self.assertEqual(last(*calls, cells(0)), numbers)
        self.assert_told([*calls, page(1, 1), sheet(0)], 0, 1, [0])

    def test_after_box(self):
        self.assert_told([page(4, 3), sheet(0), box(0, 1, 1, 2, 9, 8)], 0, 4, [0, 0, 0, 0, 0, 8, 8, 0, 0, 8, 8, 0])
        self.assert_told([page(4, 3), sheet(0), box(0, 2, 0, HIGHEST, 1, 8), box(0, 3, 0, 1, 2, 9)], 0, 4,
                         [0, 0, 8, 9, 0, 0, 0, 9, 0, 0, 0, 0])

    def test_each_effect_when_it_comes_when_it_is_kept_up_and_when_it_is_given(self):
        size, three = page(3, 2), [sheet(0), sheet(0), sheet(0)]
        paints = [call for k in range(3) for call in dots(k)]
        for numbers, made in MADE:
            self.assert_told([size, *three, *paints, sheet(*numbers)], 3, 3, made)
            self.assert_told([size, *three, sheet(*numbers), *paints], 3, 3, made)
            self.assert_told([size, *three, sheet(0), *paints, effect(3, *numbers)], 3, 3, made)
            self.assert_told([size, *three, sheet(0), *paints, effect(3, *numbers), effect(3, 0)], 3, 3, made)

    def test_painted_over_what_another_effect_has_left(self):
        calls = [page(3, 1), sheet(0), sheet(2, 0), effect(1, 0), dot(1, 1, 0, 9)]
        self.assert_told(calls, 1, 3, [255, 9, 255])
        self.assert_told([*calls, effect(1, 1, 0, 5)], 1, 3, [5, 5, 5])

    def test_each_sheet_has_its_own(self):
        calls = [page(2, 1), sheet(0), sheet(0), sheet(6, 0, 1), dot(0, 0, 0, 3), dot(1, 1, 0, 4)]
        self.assertEqual(ask(*calls, cells(0), cells(1), cells(2))[6:], [[3, 0], [0, 4], [3, 4]])

    def test_asking_changes_nothing(self):
        calls = [page(2, 1), sheet(0), sheet(2, 0), dot(0, 0, 0, 3)]
        asked = [cells(0), cell(1, 0, 0), cells(1), list_sheets()]
        self.assertEqual(ask(*calls, *asked, *asked)[4:], [[3, 0], [252], [252, 255], [2, 0, 2, 3, 1, 2, 507]] * 2)


class RefusedTest(unittest.TestCase):
    sheets = (page(3, 2), sheet(0), sheet(2, 0))

    def test_there_is_no_such_sheet(self):
        self.assertEqual(ask(cells(0), cell(0, 0, 0)), [[-2], [-2]])
        for k, answer in ((0, [0] * 6), (1, [255] * 6), (2, [-2]), (9, [-2]), (10, [-2]), (HIGHEST, [-2])):
            self.assertEqual(last(*self.sheets, cells(k)), answer)
            self.assertEqual(last(*self.sheets, cell(k, 2, 1)), answer[:1])

    def test_there_are_none_again_after_page(self):
        self.assertEqual(ask(*self.sheets, page(3, 2), cells(0), cell(0, 0, 0))[4:], [[-2], [-2]])

    def test_there_is_no_such_cell(self):
        for x, y, answer in ((2, 1, [255]), (3, 0, [-1]), (3, 1, [-1]), (0, 2, [-1]), (2, 2, [-1]), (3, 2, [-1]),
                             (HIGHEST, 0, [-1]), (0, HIGHEST, [-1]), (HIGHEST, HIGHEST, [-1])):
            self.assertEqual(last(*self.sheets, cell(1, x, y)), answer)

    def test_columns_and_rows_are_not_mixed_up(self):
        for wide, high in ((1, 6), (6, 1), (2, 5)):
            calls = [page(wide, high), sheet(0)]
            self.assertEqual(ask(*calls, cell(0, wide - 1, high - 1), cell(0, wide, 0), cell(0, 0, high))[2:],
                             [[0], [-1], [-1]])

    def test_no_such_sheet_is_told_first(self):
        for k in (2, HIGHEST):
            for x, y in ((3, 0), (0, 2), (HIGHEST, HIGHEST)):
                self.assertEqual(last(*self.sheets, cell(k, x, y)), [-2])
        self.assertEqual(last(cell(0, 1, 1)), [-2])


if __name__ == "__main__":
    unittest.main()
