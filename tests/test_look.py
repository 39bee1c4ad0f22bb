"""Promise 3, look; and which cells are new."""

import unittest

from tests.asking import HIGHEST, ask, box, cell, cells, dot, effect, last, list_sheets, look, needs, page, sheet

# Sheet 1 shows where sheet 0 is 100 or more; both have been looked at.
SEEN = (page(3, 1), sheet(0), sheet(5, 0, 100), look(0), look(1))


def after(calls, *more):
    """The answers of the calls that come behind the others."""
    return ask(*calls, *more)[len(calls):]


class WhenItComesTest(unittest.TestCase):
    def test_all_cells(self):
        self.assertEqual(last(page(2, 2), sheet(0), look(0)), [4, 0, 0, 1, 0, 2, 0, 3, 0])
        self.assertEqual(last(sheet(0), look(0)), [1, 0, 0])
        self.assertEqual(last(page(2, 1), sheet(0), dot(0, 1, 0, 7), look(0)), [2, 0, 0, 1, 7])
        self.assertEqual(last(page(6, 6), sheet(0), sheet(2, 0), look(1))[:5], [36, 0, 255, 1, 255])
        self.assertEqual(len(last(page(6, 6), sheet(0), sheet(2, 0), look(1))), 73)

    def test_of_each_effect(self):
        for numbers in ((0,), (1, 0, 0), (2, 0), (3, 0), (4, 0, 1, 1), (5, 0, 1), (6, 0, 0), (7, 0, 0), (8, 0, 0),
                        (9, 0, 0, 0)):
            made = 255 if numbers[0] == 2 else 0
            self.assertEqual(last(page(2, 1), sheet(0), look(0), sheet(*numbers), look(1)), [2, 0, made, 1, made])

    def test_none_at_a_second_look(self):
        self.assertEqual(after((page(2, 1), sheet(0)), look(0), look(0), look(0)), [[2, 0, 0, 1, 0], [0], [0]])

    def test_on_a_page_that_is_new(self):
        self.assertEqual(after(SEEN, page(3, 1), sheet(0), look(0), look(0)), [[0], [0], [3, 0, 0, 1, 0, 2, 0], [0]])


class ChangedTest(unittest.TestCase):
    def test_just_the_changed_ones_rising(self):
        self.assertEqual(after(SEEN, dot(0, 2, 0, 9), dot(0, 0, 0, 8), look(0), look(0)),
                         [[1, 1], [1, 1], [2, 0, 8, 2, 9], [0]])
        self.assertEqual(after((page(3, 3), sheet(0), look(0)), box(0, 1, 1, 2, 2, 5), dot(0, 1, 0, 6), look(0))[-1],
                         [5, 1, 6, 4, 5, 5, 5, 7, 5, 8, 5])

    def test_the_number_that_it_has_when_it_is_looked_at(self):
        self.assertEqual(after(SEEN, dot(0, 1, 0, 9), dot(0, 1, 0, 10), look(0))[-1], [1, 1, 10])

    def test_changed_back_ones_too(self):
        self.assertEqual(after(SEEN, dot(0, 1, 0, 200), dot(0, 1, 0, 0), look(0), look(1), look(0), look(1))[2:],
                         [[1, 1, 0], [1, 1, 0], [0], [0]])

    def test_painted_with_the_number_that_it_had(self):
        self.assertEqual(after(SEEN, dot(0, 1, 0, 0), box(0, 0, 0, 3, 1, 0), look(0))[-1], [0])
        self.assertEqual(after(SEEN, dot(0, 1, 0, 7), look(0), box(0, 0, 0, 3, 1, 7), look(0))[-1], [2, 0, 7, 2, 7])

    def test_touched_but_with_the_number_that_it_had(self):
        self.assertEqual(after(SEEN, dot(0, 1, 0, 99), look(1), dot(0, 1, 0, 100), look(1)),
                         [[1, 1], [0], [1, 1], [1, 1, 255]])
        # 4 in a corner is 1 in the mean of four cells and of six, 0 in that of nine.
        soft = (page(3, 3), sheet(0), sheet(3, 0), look(1))
        self.assertEqual(after(soft, dot(0, 0, 0, 4), look(1)), [[1, 4], [3, 0, 1, 1, 1, 3, 1]])

    def test_several_sheets_on(self):
        sheets = (page(3, 1), sheet(0), sheet(4, 0, 1, 0), sheet(2, 1), look(0), look(1), look(2))
        self.assertEqual(after(sheets, dot(0, 0, 0, 9), look(2), look(1), look(0)),
                         [[1, 2], [1, 1, 246], [1, 1, 9], [1, 0, 9]])

    def test_a_look_at_one_sheet_leaves_what_is_new_to_another(self):
        self.assertEqual(ask(page(2, 1), sheet(0), sheet(2, 0), look(0), look(1), look(0))[3:],
                         [[2, 0, 0, 1, 0], [2, 0, 255, 1, 255], [0]])
        self.assertEqual(after(SEEN, dot(0, 1, 0, 200), look(1), look(1), look(0), look(0))[1:],
                         [[1, 1, 255], [0], [1, 1, 200], [0]])

    def test_by_another_call_than_look_it_stays_new(self):
        asked = [cells(0), cell(0, 1, 0), needs(1, 1, 0), list_sheets(), cells(1), sheet(0)]
        self.assertEqual(after(SEEN, dot(0, 1, 0, 200), *asked, look(0), look(1))[-2:], [[1, 1, 200], [1, 1, 255]])


class EffectTest(unittest.TestCase):
    def test_just_the_changed_ones(self):
        seen = (*SEEN, dot(0, 0, 0, 200), look(0), look(1))
        self.assertEqual(after(seen, effect(1, 2, 0), look(1), look(0)), [[3, 0], [3, 0, 55, 1, 255, 2, 255], [0]])
        self.assertEqual(after(seen, effect(1, 6, 0, 0), look(1)), [[1, 0], [1, 0, 200]])
        self.assertEqual(after(seen, effect(1, 5, 0, 200), look(1)), [[0, 0], [0]])

    def test_to_another_and_back(self):
        self.assertEqual(after(SEEN, effect(1, 2, 0), effect(1, 5, 0, 100), look(1), look(1)),
                         [[3, 0], [3, 0], [3, 0, 0, 1, 0, 2, 0], [0]])

    def test_to_0(self):
        self.assertEqual(after(SEEN, effect(1, 0), look(1)), [[0, 0], [0]])
        self.assertEqual(after(SEEN, effect(1, 2, 0), effect(1, 0), look(1), effect(1, 0), look(1)),
                         [[3, 0], [0, 0], [3, 0, 255, 1, 255, 2, 255], [0, 0], [0]])

    def test_before_the_first_look_all_are_new_still(self):
        self.assertEqual(last(page(2, 1), sheet(0), sheet(2, 0), effect(1, 0), look(1)), [2, 0, 255, 1, 255])

    def test_sheets_behind_it(self):
        sheets = (page(3, 1), sheet(0), sheet(0), sheet(5, 1, 100), dot(0, 1, 0, 60), look(0), look(1), look(2))
        self.assertEqual(after(sheets, effect(1, 1, 0, 40), look(0), look(1), look(2)),
                         [[3, 3], [0], [3, 0, 40, 1, 100, 2, 40], [1, 1, 255]])


class RefusedTest(unittest.TestCase):
    def test_there_is_no_such_sheet(self):
        self.assertEqual(last(look(0)), [-2])
        for k in (2, 9, 10, HIGHEST):
            self.assertEqual(last(*SEEN, look(k)), [-2])
        self.assertEqual(after(SEEN, page(3, 1), look(0))[-1], [-2])

    def test_it_changes_nothing_then(self):
        calls = (page(2, 1), sheet(0), sheet(2, 0), look(0), dot(0, 1, 0, 9))
        told = [[2, 0, 1, 9, 1, 2, 501], [0, 9], [255, 246], [1, 1, 9], [2, 0, 255, 1, 246], [0], [0]]
        asked = [list_sheets(), cells(0), cells(1), look(0), look(1), look(0), look(1)]
        self.assertEqual(after(calls, *asked), told)
        self.assertEqual(after(calls, look(2), look(HIGHEST), *asked), [[-2], [-2], *told])


if __name__ == "__main__":
    unittest.main()
