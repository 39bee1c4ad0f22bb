"""Which cells of a sheet are new."""

import unittest

from keptsheets.sheets import Page


def new_cells(page, k):
    return [cell for cell, fresh in enumerate(page.sheets[k].fresh) if fresh]


def looked_at(page):
    for sheet in page.sheets:
        sheet.fresh = [False] * page.size()


class NewTest(unittest.TestCase):
    def setUp(self):
        self.page = Page(3, 1)
        self.page.add_sheet([0])
        self.page.add_sheet([5, 0, 100])

    def test_all_cells_when_a_sheet_comes(self):
        self.assertEqual(new_cells(self.page, 0), [0, 1, 2])
        self.assertEqual(new_cells(self.page, 1), [0, 1, 2])

    def test_then_those_that_have_changed(self):
        looked_at(self.page)
        self.page.paint(0, [1, 2], 99)
        self.assertEqual(new_cells(self.page, 0), [1, 2])
        self.assertEqual(new_cells(self.page, 1), [])
        self.page.paint(0, [2], 100)
        self.assertEqual(new_cells(self.page, 1), [2])

    def test_changed_back_ones_too(self):
        looked_at(self.page)
        self.page.paint(0, [0], 200)
        self.page.paint(0, [0], 0)
        self.assertEqual(new_cells(self.page, 0), [0])
        self.assertEqual(new_cells(self.page, 1), [0])

    def test_by_another_effect_just_the_changed_ones(self):
        self.page.paint(0, [0], 200)
        looked_at(self.page)
        self.page.give_effect(1, [2, 0])
        self.assertEqual(new_cells(self.page, 1), [0, 1, 2])
        looked_at(self.page)
        self.page.give_effect(1, [5, 0, 100])
        self.page.give_effect(1, [0])
        self.assertEqual(new_cells(self.page, 1), [0, 1, 2])
        looked_at(self.page)
        self.page.give_effect(1, [6, 0, 0])
        self.assertEqual(new_cells(self.page, 1), [0])


if __name__ == "__main__":
    unittest.main()
