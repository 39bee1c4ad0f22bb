"""Promise 1, sheet; and what each effect makes."""

import unittest

from tests.asking import HIGHEST, ask, box, dot, effect, last, numbers_differ, page, sheet

RIGHT_EFFECTS = ((0,), (1, 0, 9), (2, 1), (3, 2), (4, 0, 1, 1), (5, 1, 9), (6, 0, 1), (7, 1, 2), (8, 2, 2),
                 (9, 0, 1, 2))

# Which numbers of an effect are sheets.
SHEET_PLACES = {0: (), 1: (1,), 2: (1,), 3: (1,), 4: (1,), 5: (1,), 6: (1, 2), 7: (1, 2), 8: (1, 2), 9: (1, 2, 3)}

THREE = (sheet(0), sheet(0), sheet(0))


class TakenTest(unittest.TestCase):
    def test_each_effect_with_as_many_numbers_as_it_asks_for(self):
        for numbers in RIGHT_EFFECTS:
            self.assertEqual(ask(*THREE, sheet(*numbers)), [[0], [1], [2], [3]], numbers)

    def test_each_effect_with_one_number_more(self):
        for numbers in RIGHT_EFFECTS:
            self.assertEqual(last(*THREE, sheet(*numbers, 0)), [-3], numbers)

    def test_each_effect_with_ten_numbers(self):
        for numbers in RIGHT_EFFECTS:
            self.assertEqual(last(*THREE, sheet(*numbers, *[0] * (10 - len(numbers)))), [-3], numbers)

    def test_each_effect_with_one_number_fewer(self):
        for numbers in RIGHT_EFFECTS:
            self.assertEqual(last(*THREE, sheet(*numbers[:-1])), [-3], numbers)

    def test_each_effect_by_its_number_alone(self):
        for numbers in RIGHT_EFFECTS[1:]:
            self.assertEqual(last(*THREE, sheet(numbers[0])), [-3], numbers)

    def test_no_numbers_at_all(self):
        self.assertEqual(last(sheet()), [-3])
        self.assertEqual(last(*THREE, sheet()), [-3])

    def test_another_number_than_0_to_9(self):
        for kind in (10, 11, 255, HIGHEST):
            for more in ((), (0,), (0, 0), (0, 0, 0)):
                self.assertEqual(last(*THREE, sheet(kind, *more)), [-3])

    def test_sheets_must_be_ahead(self):
        for numbers in RIGHT_EFFECTS:
            for place in SHEET_PLACES[numbers[0]]:
                for sheet_told, answer in ((0, [3]), (2, [3]), (3, [-3]), (4, [-3]), (9, [-3]), (HIGHEST, [-3])):
                    told = list(numbers)
                    told[place] = sheet_told
                    self.assertEqual(last(*THREE, sheet(*told)), answer, told)

    def test_the_first_sheet_can_only_be_painted(self):
        for numbers in RIGHT_EFFECTS:
            told = [0 if place in SHEET_PLACES[numbers[0]] else number for place, number in enumerate(numbers)]
            self.assertEqual(last(sheet(*told)), [0] if numbers[0] == 0 else [-3], told)

    def test_k_and_t_go_to_255(self):
        for kind in (1, 5):
            for number, answer in ((0, [1]), (255, [1]), (256, [-3]), (HIGHEST, [-3])):
                self.assertEqual(last(sheet(0), sheet(kind, 0, number)), answer)

    def test_x_and_y_have_no_end(self):
        for x in (0, 255, 256, HIGHEST):
            for y in (0, 255, 256, HIGHEST):
                self.assertEqual(last(sheet(0), sheet(4, 0, x, y)), [1])

    def test_the_eleventh_sheet(self):
        ten = [sheet(0) for k in range(10)]
        for numbers in ((0,), (2, 9), (3, 10), (), (10,), (1, 0, 256), (0, 0)):
            self.assertEqual(ask(*ten, sheet(*numbers)), [[k] for k in range(10)] + [[-5]], numbers)

    def test_the_tenth_sheet(self):
        nine = [sheet(0) for k in range(9)]
        self.assertEqual(ask(*nine, sheet(9, 8, 8, 8), sheet(0))[9:], [[9], [-5]])
        self.assertEqual(ask(*nine, sheet(2, 9), sheet(0))[9:], [[-3], [9]])

    def test_a_refused_sheet_leaves_all_as_it_was(self):
        wrong = [sheet(), sheet(10), sheet(0, 0), sheet(2, 2), sheet(1, 0, 256), sheet(9, 0, 0)]
        answered = ask(page(2, 2), sheet(0), sheet(2, 0), *wrong, dot(0, 0, 0, 3), sheet(0), dot(2, 0, 0, 3))
        self.assertEqual(answered, [[0], [0], [1]] + [[-3]] * 6 + [[1, 1], [2], [1, 0]])


def painted(k, rows):
    return [dot(k, x, y, number) for y, row in enumerate(rows) for x, number in enumerate(row)]


class MadeTest(unittest.TestCase):
    """A sheet's numbers when it comes, and the same when what it is made of is painted afterwards."""

    def assert_made(self, painted_rows, numbers, awaited):
        wide = len(awaited[0])
        size = page(wide, len(awaited))
        sheets = [sheet(0) for rows in painted_rows]
        paints = [call for k, rows in enumerate(painted_rows) for call in painted(k, rows)]
        k = len(painted_rows)
        when_it_comes = [size, *sheets, *paints, sheet(*numbers)]
        self.assertEqual(numbers_differ(when_it_comes, k, wide, awaited), [], numbers)
        kept_up = [size, *sheets, sheet(*numbers), *paints]
        self.assertEqual(numbers_differ(kept_up, k, wide, awaited), [], numbers)
        by_effect = [size, *sheets, sheet(0), *paints, effect(k, *numbers)]
        self.assertEqual(numbers_differ(by_effect, k, wide, awaited), [], numbers)

    def test_painted_is_0_at_first(self):
        self.assertEqual(numbers_differ([page(6, 4), sheet(0)], 0, 6, [[0] * 6] * 4), [])

    def test_added(self):
        self.assert_made([[[0, 1, 154, 155, 156, 255]]], (1, 0, 100), [[100, 101, 254, 255, 255, 255]])
        self.assert_made([[[0, 1, 255]]], (1, 0, 0), [[0, 1, 255]])
        self.assert_made([[[0, 1, 255]]], (1, 0, 255), [[255, 255, 255]])

    def test_turned(self):
        self.assert_made([[[0, 1, 127, 128, 254, 255]]], (2, 0), [[255, 254, 128, 127, 1, 0]])

    def test_soft_counts_just_the_cells_that_the_page_has(self):
        self.assert_made([[[90, 0, 0], [0, 0, 0], [0, 0, 0]]], (3, 0), [[23, 15, 0], [15, 10, 0], [0, 0, 0]])
        self.assert_made([[[7]]], (3, 0), [[7]])
        self.assert_made([[[255, 0, 1, 6]]], (3, 0), [[128, 85, 2, 4]])
        self.assert_made([[[255], [0], [1], [6]]], (3, 0), [[128], [85], [2], [4]])

    def test_soft_takes_the_nearest(self):
        self.assert_made([[[0, 1], [0, 0]]], (3, 0), [[0, 0], [0, 0]])
        self.assert_made([[[0, 1], [1, 0]]], (3, 0), [[1, 1], [1, 1]])
        self.assert_made([[[0, 0, 1]]], (3, 0), [[0, 0, 1]])
        self.assert_made([[[0, 1, 1]]], (3, 0), [[1, 1, 1]])
        self.assert_made([[[0, 0, 0], [0, 4, 0], [0, 0, 0]]], (3, 0), [[1, 1, 1], [1, 0, 1], [1, 1, 1]])
        self.assert_made([[[0, 0, 0], [0, 5, 0], [0, 0, 0]]], (3, 0), [[1, 1, 1], [1, 1, 1], [1, 1, 1]])
        self.assert_made([[[255, 255, 255], [255, 255, 255]]], (3, 0), [[255, 255, 255], [255, 255, 255]])

    def test_moved_round_again(self):
        rows = [[1, 2, 3], [4, 5, 6]]
        self.assert_made([rows], (4, 0, 0, 0), rows)
        self.assert_made([rows], (4, 0, 1, 0), [[3, 1, 2], [6, 4, 5]])
        self.assert_made([rows], (4, 0, 0, 1), [[4, 5, 6], [1, 2, 3]])
        self.assert_made([rows], (4, 0, 5, 3), [[5, 6, 4], [2, 3, 1]])
        self.assert_made([rows], (4, 0, 3, 2), rows)

    def test_moved_very_far(self):
        # 4294967295 is 0 more than a multiple of 3 and 3 more than one of 4.
        self.assert_made([[[1, 2, 3], [4, 5, 6], [7, 8, 9], [10, 11, 12]]], (4, 0, HIGHEST, HIGHEST),
                         [[4, 5, 6], [7, 8, 9], [10, 11, 12], [1, 2, 3]])
        self.assert_made([[[1, 2, 3, 4]]], (4, 0, HIGHEST, HIGHEST), [[2, 3, 4, 1]])

    def test_cut(self):
        self.assert_made([[[0, 99, 100, 101, 255]]], (5, 0, 100), [[0, 0, 255, 255, 255]])
        self.assert_made([[[0, 1]]], (5, 0, 0), [[255, 255]])
        self.assert_made([[[254, 255]]], (5, 0, 255), [[0, 255]])

    def test_greater(self):
        self.assert_made([[[0, 5, 6, 255]], [[0, 6, 5, 0]]], (6, 0, 1), [[0, 6, 6, 255]])
        self.assert_made([[[3, 4]]], (6, 0, 0), [[3, 4]])

    def test_half(self):
        self.assert_made([[[0, 0, 1, 2, 255, 255]], [[0, 1, 0, 4, 254, 255]]], (7, 0, 1), [[0, 1, 1, 3, 255, 255]])
        self.assert_made([[[3, 255]]], (7, 0, 0), [[3, 255]])

    def test_difference(self):
        self.assert_made([[[0, 5, 6, 255, 0]], [[0, 6, 5, 0, 255]]], (8, 0, 1), [[0, 1, 1, 255, 255]])
        self.assert_made([[[3, 255]]], (8, 0, 0), [[0, 0]])

    def test_masked(self):
        first, second, mask = [[1, 2, 3, 4]], [[5, 6, 7, 8]], [[0, 127, 128, 255]]
        self.assert_made([first, second, mask], (9, 0, 1, 2), [[5, 6, 3, 4]])
        self.assert_made([first, second, mask], (9, 1, 0, 2), [[1, 2, 7, 8]])
        self.assert_made([first, second, mask], (9, 2, 0, 2), [[1, 2, 128, 255]])

    def test_made_of_made_ones(self):
        calls = [page(3, 1), sheet(0), sheet(2, 0), sheet(4, 1, 1, 0), sheet(6, 0, 2), box(0, 1, 0, 1, 1, 200),
                 dot(0, 2, 0, 20)]
        self.assertEqual(numbers_differ(calls, 1, 3, [[255, 55, 235]]), [])
        self.assertEqual(numbers_differ(calls, 2, 3, [[235, 255, 55]]), [])
        self.assertEqual(numbers_differ(calls, 3, 3, [[235, 255, 55]]), [])


if __name__ == "__main__":
    unittest.main()
