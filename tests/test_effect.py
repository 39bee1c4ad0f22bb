"""Promise 2, effect."""

import unittest

from tests.asking import HIGHEST, ask, box, dot, effect, last, numbers_differ, page, sheet

# Sheets 0 to 2 are painted, 3 is the one whose effect is given, 4 is made of it.
SHEETS = (page(3, 1), sheet(0), sheet(0), sheet(0), sheet(0), sheet(2, 3), dot(0, 0, 0, 10), dot(0, 1, 0, 200),
          dot(1, 0, 0, 20), dot(1, 2, 0, 31), dot(2, 1, 0, 128))

# An effect, and the numbers that it makes of 10 200 0, of 20 0 31 and of 0 128 0.
MADE = (
    ((1, 0, 60), [70, 255, 60]),
    ((2, 1), [235, 255, 224]),
    ((3, 0), [105, 70, 100]),
    ((4, 0, 1, 0), [0, 10, 200]),
    ((5, 0, 10), [255, 255, 0]),
    ((6, 0, 1), [20, 200, 31]),
    ((7, 0, 1), [15, 100, 16]),
    ((8, 0, 1), [10, 200, 31]),
    ((9, 0, 1, 2), [20, 200, 31]),
)


class GivenTest(unittest.TestCase):
    def test_to_each_effect_and_back_to_0(self):
        for numbers, made in MADE:
            changed = len([number for number in made if number != 0])
            answered = ask(*SHEETS, effect(3, *numbers), effect(3, 0), effect(3, *numbers))
            self.assertEqual(answered[len(SHEETS):], [[changed, changed], [0, 0], [0, 0]], numbers)
            self.assertEqual(numbers_differ([*SHEETS, effect(3, *numbers)], 3, 3, [made]), [])
            turned = [255 - number for number in made]
            self.assertEqual(numbers_differ([*SHEETS, effect(3, *numbers)], 4, 3, [turned]), [])
            self.assertEqual(numbers_differ([*SHEETS, effect(3, *numbers), effect(3, 0)], 4, 3, [turned]), [])

    def test_from_each_effect_to_each(self):
        for first, first_made in MADE:
            for second, second_made in MADE:
                changed = len([1 for before, after in zip(first_made, second_made) if before != after])
                self.assertEqual(last(*SHEETS, effect(3, *first), effect(3, *second)), [changed, changed])
                calls = [*SHEETS, effect(3, *first), effect(3, *second)]
                self.assertEqual(numbers_differ(calls, 3, 3, [second_made]), [])

    def test_what_was_painted_is_gone_by_another_effect(self):
        calls = [page(2, 1), sheet(0), sheet(0), box(1, 0, 0, 2, 1, 77), effect(1, 2, 0), effect(1, 0)]
        self.assertEqual(ask(*calls)[3:], [[2, 0], [2, 0], [0, 0]])
        self.assertEqual(numbers_differ(calls, 1, 2, [[255, 255]]), [])

    def test_painted_stays_painted(self):
        self.assertEqual(ask(sheet(0), sheet(2, 0), dot(0, 0, 0, 9), effect(0, 0), dot(0, 0, 0, 9))[2:],
                         [[1, 1], [0, 0], [0, 0]])

    def test_it_is_kept_up_by_the_new_effect_alone(self):
        sheets = [page(2, 2), sheet(0), sheet(0), sheet(3, 0), effect(2, 2, 1)]
        self.assertEqual(ask(*sheets, dot(0, 0, 0, 90), dot(1, 0, 0, 90))[4:], [[4, 0], [1, 0], [1, 1]])
        self.assertEqual(ask(*sheets, effect(2, 0), dot(0, 0, 0, 90), dot(1, 0, 0, 90))[5:], [[0, 0], [1, 0], [1, 0]])

    def test_touched_through_several_sheets(self):
        sheets = [page(4, 4), sheet(0), sheet(0), sheet(3, 1), sheet(3, 2), dot(0, 0, 0, 255)]
        self.assertEqual(last(*sheets, effect(1, 6, 0, 0)), [1, 4 + 9])
        self.assertEqual(last(*sheets, effect(1, 2, 0)), [15, 16 + 16])

    def test_touched_cells_that_stay_go_on_no_further(self):
        sheets = [page(3, 1), sheet(0), sheet(0), sheet(5, 1, 100), sheet(2, 2), dot(0, 1, 0, 60)]
        self.assertEqual(last(*sheets, effect(1, 1, 0, 39)), [3, 3])
        self.assertEqual(last(*sheets, effect(1, 1, 0, 40)), [3, 3 + 1])

    def test_unchanged_cells_touch_nothing(self):
        sheets = [page(2, 2), sheet(0), sheet(0), sheet(3, 1)]
        self.assertEqual(last(*sheets, effect(1, 1, 0, 0)), [0, 0])
        self.assertEqual(last(*sheets, effect(1, 8, 0, 0)), [0, 0])
        self.assertEqual(last(*sheets, effect(2, 7, 0, 1)), [0, 0])

    def test_sheets_ahead_stay(self):
        calls = [page(2, 1), sheet(0), sheet(2, 0), sheet(0), dot(0, 0, 0, 5), effect(2, 6, 0, 1)]
        self.assertEqual(last(*calls), [2, 0])
        self.assertEqual(numbers_differ(calls, 0, 2, [[5, 0]]), [])
        self.assertEqual(numbers_differ(calls, 1, 2, [[250, 255]]), [])


class RefusedTest(unittest.TestCase):
    right = ((0,), (1, 0, 9), (2, 1), (3, 2), (4, 0, 1, 1), (5, 1, 9), (6, 0, 1), (7, 1, 2), (8, 2, 2), (9, 0, 1, 2))
    sheets = (sheet(0), sheet(0), sheet(0), sheet(0), sheet(0))

    def test_there_is_no_such_sheet(self):
        self.assertEqual(last(effect(0, 0)), [-2])
        for k in (5, 6, 10, HIGHEST):
            for numbers in ((0,), (2, 0), (), (10,), (2, 9), (1, 0, 256)):
                self.assertEqual(last(*self.sheets, effect(k, *numbers)), [-2])

    def test_as_many_numbers_as_it_asks_for(self):
        for numbers in self.right:
            self.assertEqual(len(last(*self.sheets, effect(3, *numbers))), 2, numbers)
            self.assertEqual(last(*self.sheets, effect(3, *numbers, 0)), [-3], numbers)
            self.assertEqual(last(*self.sheets, effect(3, *numbers[:-1])), [-3], numbers)

    def test_another_number_than_0_to_9(self):
        for kind in (10, HIGHEST):
            for more in ((), (0,), (0, 0), (0, 0, 0)):
                self.assertEqual(last(*self.sheets, effect(3, kind, *more)), [-3])

    def test_sheets_must_be_ahead_of_k(self):
        places = {1: (1,), 2: (1,), 3: (1,), 4: (1,), 5: (1,), 6: (1, 2), 7: (1, 2), 8: (1, 2), 9: (1, 2, 3)}
        for numbers in self.right[1:]:
            for place in places[numbers[0]]:
                for sheet_told in (3, 4, 5, HIGHEST):
                    told = list(numbers)
                    told[place] = sheet_told
                    self.assertEqual(last(*self.sheets, effect(3, *told)), [-3], told)

    def test_the_first_sheet_can_only_be_painted(self):
        self.assertEqual(last(*self.sheets, effect(0, 0)), [0, 0])
        self.assertEqual(last(*self.sheets, effect(0, 2, 0)), [-3])
        self.assertEqual(last(*self.sheets, effect(0, 2, 1)), [-3])

    def test_k_and_t_go_to_255(self):
        for kind in (1, 5):
            self.assertEqual(len(last(*self.sheets, effect(3, kind, 0, 255))), 2)
            self.assertEqual(last(*self.sheets, effect(3, kind, 0, 256)), [-3])
            self.assertEqual(last(*self.sheets, effect(3, kind, 0, HIGHEST)), [-3])

    def test_x_and_y_have_no_end(self):
        self.assertEqual(last(*self.sheets, effect(3, 4, 0, HIGHEST, HIGHEST)), [0, 0])

    def test_after_a_refusal_all_is_as_it_was(self):
        wrong = [effect(3, 0), effect(1), effect(1, 10), effect(1, 3, 1), effect(1, 3, 2), effect(1, 1, 0, 256),
                 effect(0, 2, 0), effect(2, 0, 0)]
        calls = [page(2, 1), sheet(0), sheet(1, 0, 7), sheet(2, 1), dot(0, 0, 0, 3), *wrong]
        self.assertEqual(ask(*calls)[5:], [[-2]] + [[-3]] * 7)
        self.assertEqual(numbers_differ(calls, 0, 2, [[3, 0]]), [])
        self.assertEqual(numbers_differ(calls, 1, 2, [[10, 7]]), [])
        self.assertEqual(numbers_differ(calls, 2, 2, [[245, 248]]), [])
        self.assertEqual(ask(*calls, dot(1, 0, 0, 9), dot(2, 0, 0, 9), dot(0, 0, 0, 9))[13:], [[-6], [-6], [1, 2]])


if __name__ == "__main__":
    unittest.main()
