"""Promise 3, needs."""

import unittest

from tests.asking import HIGHEST, ask, cells, dot, effect, last, list_sheets, look, needs, page, sheet

THREE = (sheet(0), sheet(0), sheet(0))


def needed(answer):
    """The needed cells as (sheet, cell), once their count is found right."""
    assert len(answer) == 1 + 2 * answer[0]
    return list(zip(answer[1::2], answer[2::2]))


class SameCellTest(unittest.TestCase):
    def test_painted_needs_none(self):
        self.assertEqual(last(page(3, 3), sheet(0), needs(0, 1, 1)), [0])
        self.assertEqual(last(page(3, 3), *THREE, needs(2, 2, 2)), [0])

    def test_each_effect(self):
        for numbers, sheets in (((1, 2, 9), [2]), ((2, 1), [1]), ((5, 0, 200), [0]), ((6, 0, 1), [0, 1]),
                                ((6, 1, 0), [1, 0]), ((7, 2, 0), [2, 0]), ((8, 1, 2), [1, 2]),
                                ((9, 0, 1, 2), [0, 1, 2]), ((9, 2, 0, 1), [2, 0, 1]), ((9, 1, 2, 0), [1, 2, 0])):
            for x, y, cell in ((0, 0, 0), (2, 0, 2), (1, 1, 5), (3, 2, 11)):
                answer = last(page(4, 3), *THREE, sheet(*numbers), needs(3, x, y))
                self.assertEqual(needed(answer), [(told, cell) for told in sheets], numbers)

    def test_a_sheet_as_often_as_it_is_told(self):
        for kind in (6, 7, 8):
            self.assertEqual(last(page(2, 1), *THREE, sheet(kind, 1, 1), needs(3, 1, 0)), [2, 1, 1, 1, 1])
        self.assertEqual(last(page(2, 1), *THREE, sheet(9, 2, 2, 2), needs(3, 1, 0)), [3, 2, 1, 2, 1, 2, 1])
        self.assertEqual(last(page(2, 1), *THREE, sheet(9, 2, 0, 2), needs(3, 1, 0)), [3, 2, 1, 0, 1, 2, 1])
        self.assertEqual(last(page(2, 1), *THREE, sheet(9, 0, 2, 2), needs(3, 1, 0)), [3, 0, 1, 2, 1, 2, 1])

    def test_a_masked_cell_needs_both_whatever_it_shows(self):
        for bright in (0, 127, 128, 255):
            self.assertEqual(last(*THREE, sheet(9, 0, 1, 2), dot(2, 0, 0, bright), needs(3, 0, 0)),
                             [3, 0, 0, 1, 0, 2, 0])

    def test_by_the_effect_that_it_has_now(self):
        answered = ask(page(2, 2), *THREE, needs(2, 1, 1), effect(2, 6, 1, 0), needs(2, 1, 1), effect(2, 3, 1),
                       needs(2, 0, 0), effect(2, 0), needs(2, 0, 0))
        self.assertEqual(answered[4:], [[0], [0, 0], [2, 1, 3, 0, 3], [0, 0], [4, 1, 0, 1, 1, 1, 2, 1, 3], [0, 0], [0]])

    def test_made_ones_are_needed_themselves_not_what_they_need(self):
        self.assertEqual(last(sheet(0), sheet(2, 0), sheet(2, 1), needs(2, 0, 0)), [1, 1, 0])


class SoftTest(unittest.TestCase):
    def around(self, wide, high, x, y):
        answer = last(page(wide, high), sheet(0), sheet(0), sheet(3, 1), needs(2, x, y))
        self.assertEqual({told for told, cell in needed(answer)}, {1})
        return [cell for told, cell in needed(answer)]

    def test_inside(self):
        self.assertEqual(self.around(3, 3, 1, 1), [0, 1, 2, 3, 4, 5, 6, 7, 8])
        self.assertEqual(self.around(5, 4, 2, 1), [1, 2, 3, 6, 7, 8, 11, 12, 13])
        self.assertEqual(self.around(6, 6, 4, 4), [21, 22, 23, 27, 28, 29, 33, 34, 35])

    def test_in_a_corner(self):
        self.assertEqual(self.around(5, 4, 0, 0), [0, 1, 5, 6])
        self.assertEqual(self.around(5, 4, 4, 0), [3, 4, 8, 9])
        self.assertEqual(self.around(5, 4, 0, 3), [10, 11, 15, 16])
        self.assertEqual(self.around(5, 4, 4, 3), [13, 14, 18, 19])

    def test_at_an_edge(self):
        self.assertEqual(self.around(5, 4, 2, 0), [1, 2, 3, 6, 7, 8])
        self.assertEqual(self.around(5, 4, 2, 3), [11, 12, 13, 16, 17, 18])
        self.assertEqual(self.around(5, 4, 0, 1), [0, 1, 5, 6, 10, 11])
        self.assertEqual(self.around(5, 4, 4, 1), [3, 4, 8, 9, 13, 14])

    def test_one_row(self):
        self.assertEqual([self.around(4, 1, x, 0) for x in range(4)], [[0, 1], [0, 1, 2], [1, 2, 3], [2, 3]])

    def test_one_column(self):
        self.assertEqual([self.around(1, 4, 0, y) for y in range(4)], [[0, 1], [0, 1, 2], [1, 2, 3], [2, 3]])

    def test_one_cell(self):
        self.assertEqual(self.around(1, 1, 0, 0), [0])

    def test_two_by_two(self):
        self.assertEqual([self.around(2, 2, x, y) for y in range(2) for x in range(2)], [[0, 1, 2, 3]] * 4)


class MovedTest(unittest.TestCase):
    def moved(self, wide, high, x, y, column, row):
        answer = last(page(wide, high), sheet(0), sheet(0), sheet(4, 1, x, y), needs(2, column, row))
        self.assertEqual(answer[:2], [1, 1])
        self.assertEqual(len(answer), 3)
        return answer[2]

    def test_not_at_all(self):
        self.assertEqual([self.moved(3, 2, 0, 0, c % 3, c // 3) for c in range(6)], [0, 1, 2, 3, 4, 5])

    def test_within_the_page(self):
        self.assertEqual(self.moved(5, 4, 1, 0, 3, 2), 12)
        self.assertEqual(self.moved(5, 4, 0, 1, 3, 2), 8)
        self.assertEqual(self.moved(5, 4, 3, 2, 3, 2), 0)
        self.assertEqual(self.moved(5, 4, 2, 1, 4, 3), 12)

    def test_round_again(self):
        self.assertEqual([self.moved(3, 2, 1, 0, c % 3, c // 3) for c in range(6)], [2, 0, 1, 5, 3, 4])
        self.assertEqual([self.moved(3, 2, 0, 1, c % 3, c // 3) for c in range(6)], [3, 4, 5, 0, 1, 2])
        self.assertEqual([self.moved(3, 2, 2, 1, c % 3, c // 3) for c in range(6)], [4, 5, 3, 1, 2, 0])

    def test_as_far_as_the_page_and_beyond_it(self):
        self.assertEqual([self.moved(3, 2, 3, 2, c % 3, c // 3) for c in range(6)], [0, 1, 2, 3, 4, 5])
        self.assertEqual([self.moved(3, 2, 4, 5, c % 3, c // 3) for c in range(6)], [5, 3, 4, 2, 0, 1])
        self.assertEqual([self.moved(3, 2, 300, 1001, c % 3, c // 3) for c in range(6)], [3, 4, 5, 0, 1, 2])

    def test_very_far(self):
        # 4294967295 is 3 more than a multiple of 4 and 0 more than one of 5.
        self.assertEqual(self.moved(5, 4, HIGHEST, HIGHEST, 2, 0), 7)
        self.assertEqual(self.moved(4, 5, HIGHEST, HIGHEST, 2, 3), 15)
        self.assertEqual(self.moved(4, 5, HIGHEST - 1, HIGHEST - 1, 0, 0), 4 + 2)
        self.assertEqual(self.moved(1, 1, HIGHEST, HIGHEST, 0, 0), 0)


class RefusedTest(unittest.TestCase):
    sheets = (page(3, 2), sheet(0), sheet(2, 0))

    def test_there_is_no_such_sheet(self):
        self.assertEqual(last(needs(0, 0, 0)), [-2])
        for k in (2, 9, 10, HIGHEST):
            self.assertEqual(last(*self.sheets, needs(k, 2, 1)), [-2])

    def test_there_is_no_such_cell(self):
        for k in (0, 1):
            for x, y in ((3, 0), (3, 1), (0, 2), (2, 2), (HIGHEST, 0), (0, HIGHEST), (HIGHEST, HIGHEST)):
                self.assertEqual(last(*self.sheets, needs(k, x, y)), [-1])
        self.assertEqual(last(*self.sheets, needs(1, 2, 1)), [1, 0, 5])

    def test_no_such_sheet_is_told_first(self):
        for k in (2, HIGHEST):
            for x, y in ((3, 0), (0, 2), (HIGHEST, HIGHEST)):
                self.assertEqual(last(*self.sheets, needs(k, x, y)), [-2])
        self.assertEqual(last(needs(0, 1, 0)), [-2])

    def test_it_changes_nothing(self):
        told = [list_sheets(), cells(0), cells(1), look(0), look(1)]
        awaited = ask(*self.sheets, dot(0, 1, 1, 9), *told)[4:]
        for asked in (needs(1, 1, 1), needs(2, 0, 0), needs(1, 3, 0)):
            self.assertEqual(ask(*self.sheets, dot(0, 1, 1, 9), asked, *told)[5:], awaited)


if __name__ == "__main__":
    unittest.main()
